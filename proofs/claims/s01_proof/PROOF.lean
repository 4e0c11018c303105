import PyProof.Rows.All
import Wide.All
import OpenK.AllK
import Wide.FinOn
import PyProof.EqAt
import PyProof.EqKinds
import PyProof.TupleCall
import KE.BitLaws
import Open.SpecLaws
import KE.OsHead
import KE.OsGo
import PySem.Challenge.RW_boatlog_s01_answers
set_option Elab.async false
set_option linter.all false
set_option maxRecDepth 100000
section
namespace L2
open PySem PySem.Spec PyProof.Rows
abbrev Key := Sum Int Str
def keyIs : Key → Value → Bool
  | .inl k, v => Value.isInt k v
  | .inr x, v => Value.isStrOf x v
def keyH (w : World) : Key → Int
  | .inl k => hashInt k
  | .inr x => hashStr w x
theorem keyIs_shape : ∀ {k : Key} {v : Value}, keyIs k v = true → (∃ i t, k = Sum.inl i ∧ v = Value.int i t) ∨ (∃ x t, k = Sum.inr x ∧ v = Value.str x t)
  | .inl i, v, h => by
    obtain ⟨t, e⟩ := Value.isInt_shape (k := i) (v := v) h
    exact .inl ⟨i, t, rfl, e⟩
  | .inr x, v, h => by
    obtain ⟨t, e⟩ := Value.isStrOf_shape (x := x) (v := v) h
    exact .inr ⟨x, t, rfl, e⟩
theorem key_ll (a b : Int) : decide ((Sum.inl a : Key) = Sum.inl b) = (a == b) := by
  by_cases e : a = b
  · subst e; simp
  · have h : ¬ (Sum.inl a : Key) = Sum.inl b := fun q => e (Sum.inl.inj q)
    rw [decide_eq_false h]
    exact (beq_eq_false_iff_ne.mpr e).symm
theorem key_rr (a b : Str) : decide ((Sum.inr a : Key) = Sum.inr b) = decide (a = b) := by
  by_cases e : a = b
  · subst e; simp
  · have h : ¬ (Sum.inr a : Key) = Sum.inr b := fun q => e (Sum.inr.inj q)
    rw [decide_eq_false h, decide_eq_false e]
theorem key_lr (a : Int) (b : Str) : decide ((Sum.inl a : Key) = Sum.inr b) = false := decide_eq_false (fun q => nomatch q)
theorem key_rl (a : Str) (b : Int) : decide ((Sum.inr a : Key) = Sum.inl b) = false := decide_eq_false (fun q => nomatch q)
def mixKind (prog : Program) (w : World) : PySem.KeyKind prog w Key where
  is := keyIs
  hash := keyH w
  inj := fun v a b ha hb => by
    rcases keyIs_shape ha with ⟨i, t, rfl, rfl⟩ | ⟨x, t, rfl, rfl⟩
    · rcases keyIs_shape hb with ⟨j, u, rfl, e⟩ | ⟨y, u, rfl, e⟩
      · injection e with e1 _; rw [e1]
      · exact nomatch e
    · rcases keyIs_shape hb with ⟨j, u, rfl, e⟩ | ⟨y, u, rfl, e⟩
      · exact nomatch e
      · injection e with e1 _; rw [e1]
  byValue := fun k v h => by
    rcases keyIs_shape h with ⟨i, t, rfl, rfl⟩ | ⟨x, t, rfl, rfl⟩ <;> rfl
  pyHash := fun hv h => by
    rcases keyIs_shape hv with ⟨i, t, rfl, rfl⟩ | ⟨x, t, rfl, rfl⟩
    · exact wpAny_pyHash_int h
    · exact wpAny_pyHash_str h
  eqBool := fun hu hv h => by
    rcases keyIs_shape hu with ⟨i, t, rfl, rfl⟩ | ⟨x, t, rfl, rfl⟩
    · rcases keyIs_shape hv with ⟨j, u, rfl, rfl⟩ | ⟨y, u, rfl, rfl⟩
      · rw [key_ll] at h; exact wpAny_eqBool_int h
      · rw [key_lr] at h; exact SeqAt.EqAt.int_str i t y u _ _ _ _ h
    · rcases keyIs_shape hv with ⟨j, u, rfl, rfl⟩ | ⟨y, u, rfl, rfl⟩
      · rw [key_rl] at h; exact SeqAt.EqAt.str_int x t j u _ _ _ _ h
      · rw [key_rr] at h; exact wpAny_eqBool_str h
  «strs» := fun k x t v h => by
    rcases keyIs_shape h with ⟨i, u, rfl, e⟩ | ⟨y, u, rfl, e⟩
    · exact nomatch e
    · injection e with e1 _
      subst e1
      cases v <;> rfl
end L2
namespace L2
open PySem PySem.Spec PyProof.Rows
inductive V where
  | non | bl (b : Bool) | int (i : Int) | str (x : Str) | byt (b : Array UInt8) | flt (b : UInt64) | ref (a : Addr) | ty (n : String)
  deriving DecidableEq
def RelV : V → Value → Prop
  | .non, u => u = Value.none
  | .bl b, u => u = Value.bool b
  | .int i, u => ∃ t, u = Value.int i t
  | .str x, u => ∃ t, u = Value.str x t
  | .byt b, u => ∃ t, u = Value.bytes b t
  | .flt b, u => ∃ t, u = Value.float b t
  | .ref a, u => u = Value.ref a
  | .ty n, u => u = Value.type n
abbrev Vals : List V → List Value → Prop := Paired RelV
theorem Vals.length {xs : List V} {us : List Value} (r : Vals xs us) : xs.length = us.length := Paired.length r
theorem Vals.get : ∀ {xs : List V} {us : List Value} {i : Nat} {x : V}, Vals xs us → xs[i]? = some x → ∃ u, us[i]? = some u ∧ RelV x u
  | _, _, _, _, .nil, e => by simp at e
  | _, _, 0, _, .cons r _, e => by simp at e; subst e; exact ⟨_, rfl, r⟩
  | _, _, i + 1, x, .cons _ t, e => by
    obtain ⟨u, h1, h2⟩ := Vals.get (i := i) (x := x) t (by simpa using e)
    exact ⟨u, by simpa using h1, h2⟩
theorem Vals.append : ∀ {xs ys : List V} {us ws : List Value}, Vals xs us → Vals ys ws → Vals (xs ++ ys) (us ++ ws)
  | _, _, _, _, .nil, s => s
  | _, _, _, _, .cons r t, s => .cons r (Vals.append t s)
theorem Vals.take : ∀ {xs : List V} {us : List Value} (n : Nat), Vals xs us → Vals (xs.take n) (us.take n)
  | _, _, 0, _ => .nil
  | _, _, _ + 1, .nil => .nil
  | _, _, n + 1, .cons r t => .cons r (Vals.take n t)
theorem Vals.drop : ∀ {xs : List V} {us : List Value} (n : Nat), Vals xs us → Vals (xs.drop n) (us.drop n)
  | _, _, 0, r => r
  | _, _, _ + 1, .nil => .nil
  | _, _, n + 1, .cons _ t => Vals.drop n t
def RelO : Option V → Option Value → Prop
  | some v, some u => RelV v u
  | none, none => True
  | _, _ => False
def KV {κ : Type} : List (κ × V) → List (κ × Value) → Prop := Paired fun (p : κ × V) (q : κ × Value) => p.1 = q.1 ∧ RelV p.2 q.2
def kV : Key → V
  | .inl i => .int i
  | .inr x => .str x
inductive HO where
  | lst (xs : List V)
  | tup (xs : List V)
  | dK (kvs : List (Key × V)) | dT (kvs : List (List Key × V))
  | set (S : Int → Bool) (n : Nat)
  | ins (C dx : Addr) (fs : List (Str × V))
  | own (x : Addr)
  | xd (fs : List (Str × V))
  | met (f x : Addr)
  | rng (lo hi : Int)
  | frz (o : Obj) (u : HO)
  | tbl (ps : Array Value)
  | ext (φ : Heap → Prop)
abbrev Hp := Addr → Option HO
def upd (H : Hp) (a : Addr) (o : HO) : Hp := fun b => if b = a then some o else H b
theorem upd_same {H : Hp} {a : Addr} {o : HO} : upd H a o a = some o := by unfold upd; rw [if_pos rfl]
theorem upd_ne {H : Hp} {a b : Addr} {o : HO} (h : b ≠ a) : upd H a o b = H b := by unfold upd; rw [if_neg h]
theorem ne_of_none {H : Hp} {a b : Addr} {o : HO} (h : H a = some o) (h' : H b = none) : a ≠ b := by
  intro e; subst e; rw [h] at h'; cases h'
section
variable (P : Program) (w : World)
def ObjOk (H : Hp) (h : Heap) (a : Addr) : HO → Prop
  | .lst xs => xs.length ≤ sizeLine ∧ ∃ (its : List Value) (n : Nat), Vals xs its ∧ h.get? a = some { cls := .type "list", data := .seq its.toArray n }
  | .tup xs => xs.length ≤ sizeLine ∧ ∃ its : List Value, Vals xs its ∧ IsTup h a its.toArray
  | .dK kvs => kvs.length ≤ sizeLine ∧ (a == sysModules) = false ∧ ∃ vs, KV kvs vs ∧ h.DictOf (mixKind P w) a vs
  | .dT kvs => kvs.length ≤ sizeLine ∧ (a == sysModules) = false ∧ ∃ xs : List (List Key × Addr × Value),
      Paired (fun (p : List Key × V) (q : List Key × Addr × Value) => p.1 = q.1 ∧ H q.2.1 = some (.tup (p.1.map kV)) ∧ RelV p.2 q.2.2) kvs xs ∧
      ∃ o es ep, h.get? a = some o ∧ o.ExactDict ∧ o.data = .dict es ep ∧ es.toList = xs.map (entryOfKey (tupleKind (mixKind P w))) ∧ (xs.map (·.1)).Nodup
  | .set S n => h.SetOf (intKind P w) a S n
  | .ins C dx fs => H dx = some (.own a) ∧ fs.length ≤ 1000 ∧ dx ≠ a ∧ h.get? a = some (PySem.W.instObj C dx) ∧
      ∃ mA, h.Ns1 dx mA ∧ (∀ f, RelO (fs.lookup f) (mA f)) ∧ PySem.Within mA (fs.map (·.1))
  | .own _ => ∃ o, h.get? a = some o
  | .xd fs => ∃ mA, h.Ns1 a mA ∧ ∀ f, RelO (fs.lookup f) (mA f)
  | .rng lo hi => ∃ t u v, h.get? a = some { cls := .type "range", data := .fields #[.int lo t, .int hi u, .int 1 v] }
  | .frz o u => h.get? a = some o ∧ ObjOk H h a u
  | .tbl ps => h.get? a = some { cls := .none, data := .fields ps }
  | .met f x => h.get? a = some (PySem.W.methodObj (.ref f) (.ref x))
  | .ext φ => φ h ∧ (∃ o, h.get? a = some o) ∧ ∀ h1 h2 : Heap, φ h1 → (∀ o, h1.get? a = some o → h2.get? a = some o) → φ h2
def HOk (H : Hp) (h : Heap) : Prop := ∀ a o, H a = some o → ObjOk P w H h a o
end
section
variable {P : Program} {w : World} {H H' : Hp} {h h' : Heap} {a : Addr} {o : HO}
theorem ObjOk.lt (x : ObjOk P w H h a o) : a < h.objs.size := by
  cases o with
  | lst xs => obtain ⟨_, _, _, _, e⟩ := x; exact Heap.lt_size e
  | tup xs => obtain ⟨_, _, _, p⟩ := x; exact p.lt
  | dK kvs => obtain ⟨_, _, _, _, o, _, _, e, _⟩ := x; exact Heap.lt_size e
  | dT kvs => obtain ⟨_, _, _, _, o, _, _, e, _⟩ := x; exact Heap.lt_size e
  | set S n => obtain ⟨o, _, _, _, e, _⟩ := x; exact Heap.lt_size e
  | ins C dx fs => obtain ⟨_, _, _, e, _⟩ := x; exact Heap.lt_size e
  | own y => obtain ⟨_, e⟩ := x; exact Heap.lt_size e
  | xd fs => obtain ⟨_, ⟨_, _, _, e, _⟩, _⟩ := x; exact Heap.lt_size e
  | rng lo hi => obtain ⟨_, _, _, e⟩ := x; exact Heap.lt_size e
  | frz ob u => obtain ⟨e, _⟩ := x; exact Heap.lt_size e
  | tbl ps => exact Heap.lt_size (show h.get? a = some _ from x)
  | met f y => exact Heap.lt_size (show h.get? a = some _ from x)
  | ext φ => obtain ⟨_, ⟨_, e⟩, _⟩ := x; exact Heap.lt_size e
theorem Paired.mapP {α β : Type} {F G : α → β → Prop} : ∀ {l₁ : List α} {l₂ : List β}, Paired F l₁ l₂ → (∀ a b, F a b → G a b) → Paired G l₁ l₂
  | _, _, .nil, _ => .nil
  | _, _, .cons r t, f => .cons (f _ _ r) (Paired.mapP t f)
theorem ObjOk.stay (x : ObjOk P w H h a o) (k : ∀ b u, (b = a ∨ H b = some (.own a)) → h.get? b = some u → h'.get? b = some u)
    (ho : ∀ b, H b = some (.own a) → H' b = some (.own a)) (ht : ∀ b xs, H b = some (.tup xs) → H' b = some (.tup xs)) : ObjOk P w H' h' a o := by
  induction o with
  | lst xs => obtain ⟨z, its, n, r, e⟩ := x; exact ⟨z, its, n, r, k _ _ (.inl rfl) e⟩
  | tup xs => obtain ⟨z, its, r, ob, e, c⟩ := x; exact ⟨z, its, r, ob, k _ _ (.inl rfl) e, c⟩
  | dK kvs => obtain ⟨z, y, vs, r, ob, es, ep, e, c⟩ := x; exact ⟨z, y, vs, r, ob, es, ep, k _ _ (.inl rfl) e, c⟩
  | dT kvs =>
    obtain ⟨z, y, xs, r, ob, es, ep, e, c⟩ := x
    exact ⟨z, y, xs, Paired.mapP r fun p q z => ⟨z.1, ht _ _ z.2.1, z.2.2⟩, ob, es, ep, k _ _ (.inl rfl) e, c⟩
  | set S n => obtain ⟨ob, es, ep, t, e, c⟩ := x; exact ⟨ob, es, ep, t, k _ _ (.inl rfl) e, c⟩
  | ins C dx fs =>
    obtain ⟨d, z, ne, e, mA, ⟨od, es, ep, e2, c⟩, r⟩ := x
    exact ⟨ho _ d, z, ne, k _ _ (.inl rfl) e, mA, ⟨od, es, ep, k _ _ (.inr d) e2, c⟩, r⟩
  | own y => obtain ⟨ob, e⟩ := x; exact ⟨ob, k _ _ (.inl rfl) e⟩
  | xd fs => obtain ⟨mA, ⟨od, es, ep, e, c⟩, r⟩ := x; exact ⟨mA, ⟨od, es, ep, k _ _ (.inl rfl) e, c⟩, r⟩
  | rng lo hi => obtain ⟨t, u, v, e⟩ := x; exact ⟨t, u, v, k _ _ (.inl rfl) e⟩
  | frz ob u ih => obtain ⟨e, q⟩ := x; exact ⟨k _ _ (.inl rfl) e, ih q⟩
  | tbl ps =>
    have e : h.get? a = some { cls := .none, data := .fields ps } := x
    show h'.get? a = some { cls := .none, data := .fields ps }
    exact k a _ (.inl rfl) e
  | met f y =>
    have e : h.get? a = some (PySem.W.methodObj (.ref f) (.ref y)) := x
    show h'.get? a = some (PySem.W.methodObj (.ref f) (.ref y))
    exact k a _ (.inl rfl) e
  | ext φ => obtain ⟨p, ⟨o, e⟩, st⟩ := x; exact ⟨st _ _ p fun o q => k _ _ (.inl rfl) q, ⟨o, k _ _ (.inl rfl) e⟩, st⟩
theorem HOk.lt (x : HOk P w H h) (e : H a = some o) : a < h.objs.size := (x a o e).lt
theorem HOk.fresh (x : HOk P w H h) (e : h.objs.size ≤ a) : H a = none := by
  cases q : H a with
  | none => rfl
  | some u => exact absurd (Nat.lt_of_lt_of_le (x.lt q) e) (Nat.lt_irrefl _)
theorem HOk.kept (x : HOk P w H h) (k : ∀ b u, h.get? b = some u → h'.get? b = some u) : HOk P w H h' := fun a o e =>
  (x a o e).stay (fun b u _ q => k b u q) (fun _ q => q) fun _ _ q => q
theorem HOk.laid (x : HOk P w H h) (k : ∀ b u, h.get? b = some u → h'.get? b = some u) (hp : h.objs.size ≤ a) (new : ObjOk P w (upd H a o) h' a o) : HOk P w (upd H a o) h' := fun b u e => by
  have hn := x.fresh hp
  by_cases hb : b = a
  · subst hb; rw [upd_same] at e; cases e; exact new
  · rw [upd_ne hb] at e
    exact (x b u e).stay (fun c v _ q => k c v q) (fun c q => by rw [upd_ne (ne_of_none q hn)]; exact q) fun c xs q => by rw [upd_ne (ne_of_none q hn)]; exact q
end
def Rd (H : Hp) (a : Addr) (u : HO) : Prop := H a = some u ∨ ∃ o, H a = some (.frz o u)
theorem Rd.ok {P : Program} {w : World} {H : Hp} {h : Heap} {a : Addr} {u : HO} (r : Rd H a u) (x : HOk P w H h) : ObjOk P w H h a u := by
  rcases r with r | ⟨o, r⟩
  · exact x a u r
  · obtain ⟨_, q⟩ := x a _ r
    exact q
def Mut : Option HO → Prop
  | some (.lst _) => True
  | some (.dK _) => True
  | some (.dT _) => True
  | some (.set _ _) => True
  | some (.ins _ _ _) => True
  | some (.ext _) => True
  | _ => False
section
variable {P : Program} {w : World} {H : Hp} {h h' : Heap} {x e : Addr} {o' : HO}
theorem HOk.write (ok : HOk P w H h) (mu : Mut (H x)) (he : e = x ∨ H e = some (.own x)) (k : ∀ b u, b ≠ e → h.get? b = some u → h'.get? b = some u) (heo : ∃ u, h'.get? e = some u)
    (new : ObjOk P w (upd H x o') h' x o') : HOk P w (upd H x o') h' := fun b u q => by
  have nown : ∀ c y, H c = some (.own y) → c ≠ x := fun c y r z => by subst z; rw [r] at mu; exact mu
  have ntup : ∀ c xs, H c = some (.tup xs) → c ≠ x := fun c xs r z => by subst z; rw [r] at mu; exact mu
  by_cases hb : b = x
  · subst hb; rw [upd_same] at q; cases q; exact new
  · rw [upd_ne hb] at q
    by_cases hbe : b = e
    · have q' : H b = some (.own x) := by
        rcases he with z | z
        · exact absurd (hbe.trans z) hb
        · rw [hbe]; exact z
      rw [q] at q'; cases q'
      obtain ⟨v, hv⟩ := heo
      exact ⟨v, by rw [hbe]; exact hv⟩
    · refine (ok b u q).stay (fun c v hc r => k c v ?_ r) (fun c r => by rw [upd_ne (nown c b r)]; exact r) fun c xs r => by rw [upd_ne (ntup c xs r)]; exact r
      rcases hc with rfl | hc
      · exact hbe
      · rintro rfl
        rcases he with z | z
        · exact nown c b hc z
        · rw [hc] at z; cases z; exact hb rfl
end
structure Un (fs ex : List Addr) (H H' : Hp) (h h' : Heap) : Prop where
  keep : ∀ b o, h.get? b = some o → H b = none → b ∉ fs → b ∉ ex → h'.get? b = some o
  slot : ∀ b o, h.get? b = some o → H b = none → b ∈ fs → b ∉ ex → ∃ sl, h'.get? b = some { o with slots := sl }
  free : ∀ b o, h.get? b = some o → H b = none → b ∉ ex → H' b = none
  there : ∀ b o, h.get? b = some o → b ∉ ex → ∃ o', h'.get? b = some o'
  tups : ∀ b xs, H b = some (.tup xs) → H' b = some (.tup xs)
  frzs : ∀ b o u, H b = some (.frz o u) → H' b = some (.frz o u)
  tbls : ∀ b ps, H b = some (.tbl ps) → ∃ more, H' b = some (.tbl (ps ++ more))
section
variable {fs fs' ex ex' : List Addr} {H H1 H2 : Hp} {h h1 h2 h' : Heap} {a x e : Addr} {o : HO}
theorem Un.any (u : Un fs ex H H1 h h1) {b : Addr} {ob : Obj} (q : h.get? b = some ob) (n : H b = none) (hx : b ∉ ex) : ∃ sl, h1.get? b = some { ob with slots := sl } := by
  by_cases hb : b ∈ fs
  · exact u.slot b ob q n hb hx
  · exact ⟨ob.slots, u.keep b ob q n hb hx⟩
theorem Un.kept (k : ∀ b u, h.get? b = some u → h'.get? b = some u) : Un fs ex H H h h' :=
  ⟨fun b ob q _ _ _ => k b ob q, fun b ob q _ _ _ => ⟨ob.slots, k b ob q⟩, fun _ _ _ n _ => n, fun b ob q _ => ⟨ob, k b ob q⟩, fun _ _ q => q, fun _ _ _ q => q, fun _ ps q => ⟨#[], by rw [q]; simp⟩⟩
theorem Un.refl : Un fs ex H H h h := Un.kept fun _ _ q => q
theorem Un.laid (k : ∀ b u, h.get? b = some u → h'.get? b = some u) (hp : h.objs.size ≤ a) (hn : H a = none) : Un fs ex H (upd H a o) h h' where
  keep := fun b u q _ _ _ => k b u q
  slot := fun b u q _ _ _ => ⟨u.slots, k b u q⟩
  free := fun b u q n _ => by rw [upd_ne (Nat.ne_of_lt (Nat.lt_of_lt_of_le (Heap.lt_size q) hp))]; exact n
  there := fun b u q _ => ⟨u, k b u q⟩
  tups := fun b xs q => by rw [upd_ne (ne_of_none q hn)]; exact q
  frzs := fun b u xs q => by rw [upd_ne (ne_of_none q hn)]; exact q
  tbls := fun b ps q => ⟨#[], by rw [upd_ne (ne_of_none q hn), q]; simp⟩
theorem Un.write (mu : Mut (H x)) (he : e = x ∨ H e = some (.own x)) (k : ∀ b u, b ≠ e → h.get? b = some u → h'.get? b = some u) (heo : ∃ u, h'.get? e = some u) : Un fs ex H (upd H x o) h h' := by
  have hx : ∀ b, H b = none → b ≠ x := fun b n z => by subst z; rw [n] at mu; exact mu
  have hb : ∀ b, H b = none → b ≠ e := fun b n z => by
    subst z
    rcases he with r | r
    · exact hx b n r
    · rw [n] at r; cases r
  have hm : ∀ b u, H b = some u → ¬ Mut (some u) → b ≠ x := fun b u q nm z => by subst z; rw [q] at mu; exact nm mu
  refine ⟨fun b u q n _ _ => k b u (hb b n) q, fun b u q n _ _ => ⟨u.slots, k b u (hb b n) q⟩, fun b u q n _ => by rw [upd_ne (hx b n)]; exact n, fun b u q _ => ?_,
    fun b xs q => by rw [upd_ne (hm b _ q fun z => z)]; exact q, fun b u xs q => by rw [upd_ne (hm b _ q fun z => z)]; exact q, fun b ps q => ⟨#[], by rw [upd_ne (hm b _ q fun z => z), q]; simp⟩⟩
  by_cases hbe : b = e
  · subst hbe; exact heo
  · exact ⟨u, k b u hbe q⟩
end
def trk (h : Heap) (H : Hp) : List Addr := (List.range h.objs.size).filter fun a => (H a).isSome
def hidT (h : Heap) (H : Hp) : Heap := PySem.W.hideAll h (trk h H)
theorem hidT_size (h : Heap) (H : Hp) : (hidT h H).objs.size = h.objs.size := PySem.W.hideAll_size _ _
theorem hidT_get {h : Heap} {H : Hp} {b : Addr} {o : Obj} (e : h.get? b = some o) (n : H b = none) : (hidT h H).get? b = some o :=
  PySem.W.hideAll_get _ e fun hm => by
    have q : (H b).isSome = true := (List.mem_filter.mp hm).2
    rw [n] at q; simp at q
theorem of_hidT {h : Heap} {H : Hp} {b : Addr} {o : Obj} (e : (hidT h H).get? b = some o) : h.get? b = some o ∧ H b = none := by
  have e' : h.get? b = some o := PySem.W.of_hideAll (trk h H) e
  refine ⟨e', ?_⟩
  cases q : H b with
  | none => rfl
  | some x =>
    have hm : b ∈ trk h H := List.mem_filter.mpr ⟨List.mem_range.mpr (Heap.lt_size e'), by simp [q]⟩
    have z : (hidT h H).get? b = none := PySem.W.hideAll_none (trk h H) hm
    rw [z] at e; cases e
end L2
namespace L2
open PySem PySem.Spec PyProof.Rows
structure Mod (K : PySem.W.Frag) (mg : Str → Option Value) (base : Heap) : Prop where
  kin : K.In base
  glob : base.Ns mainGlobals mg
  blt : ∃ mb, base.Ns builtinsNs mb ∧ ∀ x : Str, x ≠ "__name__" → mb x = bootBuiltins x
  nolimit : base.NoLimit
structure Cx where
  prog : Program
  w : World
  K : PySem.W.Frag
  mg : Str → Option Value
  base : Heap
  A : Around
  N : List Str
  s_0 : Shared
  H_0 : Hp
  env : Env
  outer : List Env
  stack : List Env
  ex : List Addr
  fn : Str → Bool
  calm : Bool
  pn : List (Addr × Obj)
  xe : Value → Shared → Prop
def frs (l : List Env) : List Addr := l.filterMap (·.frame)
abbrev Cx.fs (X : Cx) : List Addr := frs X.outer
def Vis (sc : Scope) (x : Str) : Prop := sc.names.lookup x = some .local ∨ sc.names.lookup x = some .cell ∨ sc.names.lookup x = some .free
def Loc (sc : Scope) (x : Str) : Prop := sc.names.lookup x = some .local ∨ sc.names.lookup x = some .cell
def Look (env : Env) (h : Heap) (m : Str → Option Value) (x : Str) (u : Value) : Prop :=
  (env.kindOf x = some .local ∧ m x = some u) ∨ ((env.kindOf x = some .cell ∨ env.kindOf x = some .free) ∧ ∃ c, env.cells.lookup x = some c ∧ h.IsCell c (some u))
structure Cx.Ok (X : Cx) : Prop where
  mod : Mod X.K X.mg X.base
  kind : X.env.scope.kind = .function
  glob : X.env.globals = mainGlobals
  blt : X.env.builtins = builtinsNs
  above : X.s_0.heap.objs.size ≤ X.env.locals
  inj : ∀ x y c, X.env.cells.lookup x = some c → X.env.cells.lookup y = some c → x = y
  has : ∀ x, (X.env.kindOf x = some .cell ∨ X.env.kindOf x = some .free) → ∃ c, X.env.cells.lookup x = some c
  cab : ∀ x c, X.fn x = true → X.env.cells.lookup x = some c → X.s_0.heap.objs.size ≤ c
  hd : X.calm = true → X.A.handled = none
  frames : X.A.frames = some X.stack
  stk : X.stack = X.outer ∨ (X.stack = X.env :: X.outer ∧ X.env.frame = some X.env.locals)
  exf : ∀ b ∈ X.ex, b ≠ X.env.locals ∧ ∀ x c, X.env.cells.lookup x = some c → c ≠ b
  bs : ∀ b o, X.base.get? b = some o → X.s_0.heap.get? b = some o ∧ X.H_0 b = none
  bsz : X.base.objs.size ≤ X.s_0.heap.objs.size
  noex : ∀ b o, X.base.get? b = some o → b ∉ X.ex
  exfs : ∀ b ∈ X.ex, b ∉ X.fs
  funs : X.s_0.heap.FunFrames X.base X.outer
  frf : ∀ b ∈ X.fs, X.H_0 b = none
structure Inv (X : Cx) (pins : List (Addr × Obj)) (σ : List (Option V)) (H : Hp) (s : Shared) : Prop where
  ok : X.Ok
  os : s.os = X.s_0.os
  bare : AllBare s.gens
  base : Un X.fs X.ex X.H_0 H X.s_0.heap s.heap
  loc : ∃ m, s.heap.Ns X.env.locals m ∧ ∀ (i : Nat) (x : Str) (v : V), X.N[i]? = some x → σ[i]? = some (some v) → Vis X.env.scope x → ∃ u, RelV v u ∧ Look X.env s.heap m x u
  cell : ∀ x c, X.env.cells.lookup x = some c → ∃ v, s.heap.IsCell c v
  free : H X.env.locals = none
  freeC : ∀ x c, X.env.cells.lookup x = some c → H c = none
  pin : ∀ p ∈ X.pn ++ pins, s.heap.get? p.1 = some p.2 ∧ H p.1 = none ∧ p.1 ≠ X.env.locals ∧ p.1 ∉ X.fs ∧ ∀ v, p.2.data ≠ .cell v
  hok : HOk X.prog X.w H s.heap
  len : σ.length = X.N.length
section
variable {X : Cx} {pins : List (Addr × Obj)} {σ : List (Option V)} {H H' : Hp} {s : Shared} {h' : Heap}
theorem Cx.Ok.nofr (ok : X.Ok) {b : Addr} {o : Obj} (e : X.base.get? b = some o) : b ∉ X.fs := fun hb => by
  have := (ok.funs.mem hb).1
  rw [e] at this; cases this
theorem Inv.bs (I : Inv X pins σ H s) : ∀ b o, X.base.get? b = some o → s.heap.get? b = some o ∧ H b = none := fun b o e =>
  ⟨I.base.keep b o (I.ok.bs b o e).1 (I.ok.bs b o e).2 (I.ok.nofr e) (I.ok.noex b o e), I.base.free b o (I.ok.bs b o e).1 (I.ok.bs b o e).2 (I.ok.noex b o e)⟩
theorem Inv.bk (I : Inv X pins σ H s) : ∀ b o, X.base.get? b = some o → s.heap.get? b = some o := fun b o e => (I.bs b o e).1
theorem Inv.mod (I : Inv X pins σ H s) : Mod X.K X.mg X.base := I.ok.mod
theorem Inv.kIn (I : Inv X pins σ H s) : X.K.In s.heap := I.ok.mod.kin.keeps I.bk
theorem Inv.lt (I : Inv X pins σ H s) : X.env.locals < s.heap.objs.size := let ⟨_, hn, _⟩ := I.loc; hn.lt
theorem Inv.sz (I : Inv X pins σ H s) : X.s_0.heap.objs.size ≤ s.heap.objs.size := Nat.le_trans I.ok.above (Nat.le_of_lt I.lt)
theorem Inv.nofs (I : Inv X pins σ H s) {a : Addr} (h : s.heap.objs.size ≤ a) : a ∉ X.fs := fun hb => by
  obtain ⟨_, o, ho, _⟩ := I.ok.funs.mem hb
  exact absurd (Nat.lt_of_lt_of_le (Heap.lt_size ho) (Nat.le_trans I.sz h)) (Nat.lt_irrefl _)
theorem Inv.cne (I : Inv X pins σ H s) : ∀ x c, X.env.cells.lookup x = some c → c ≠ X.env.locals := fun x c e z => by
  obtain ⟨v, o, ho, hd⟩ := I.cell x c e
  obtain ⟨m, ⟨o', es, ep, ho', hd', _⟩, _⟩ := I.loc
  rw [z, ho'] at ho; cases ho; rw [hd'] at hd; cases hd
theorem Inv.funs (I : Inv X pins σ H s) : s.heap.FunFrames X.base X.outer := by
  have all : ∀ (l : List Env), (∀ b ∈ frs l, b ∈ X.fs) → X.s_0.heap.FunFrames X.base l → s.heap.FunFrames X.base l := by
    intro l
    induction l with
    | nil => intro _ _; trivial
    | cons env r ih =>
      intro hs hl
      obtain ⟨hk, ⟨L, o, hf, hn, ho, hd⟩, hr⟩ := hl
      have hL : L ∈ X.fs := hs L (by unfold frs; rw [List.filterMap_cons, hf]; exact List.mem_cons_self)
      obtain ⟨sl, e⟩ := I.base.slot L o ho (I.ok.frf L hL) hL fun z => I.ok.exfs L z hL
      exact ⟨hk, ⟨L, _, hf, hn, e, hd⟩, ih (fun b hb => hs b (by unfold frs; rw [List.filterMap_cons, hf]; exact List.mem_cons_of_mem _ hb)) hr⟩
  exact all X.outer (fun _ hb => hb) I.ok.funs
theorem Inv.stack (I : Inv X pins σ H s) : s.heap.FunFrames X.base X.stack := by
  rcases I.ok.stk with e | ⟨e, hf⟩
  · rw [e]; exact I.funs
  · rw [e]
    obtain ⟨m, hn, _⟩ := I.loc
    refine .cons (by rw [I.ok.kind]; decide) hf hn ?_ I.funs
    exact Heap.get?_none_of_le (Nat.le_trans I.ok.bsz I.ok.above)
theorem Inv.stkSub (I : Inv X pins σ H s) : ∀ b ∈ frs X.stack, b ∈ X.env.locals :: X.fs := fun b hb => by
  rcases I.ok.stk with e | ⟨e, hf⟩
  · rw [e] at hb; exact List.mem_cons_of_mem _ hb
  · rw [e] at hb
    unfold frs at hb
    rw [List.filterMap_cons, hf] at hb
    exact hb
theorem Inv.stkFree (I : Inv X pins σ H s) : ∀ b ∈ frs X.stack, H b = none := fun b hb => by
  rcases List.mem_cons.mp (I.stkSub b hb) with e | hb
  · rw [e]; exact I.free
  · obtain ⟨_, o, ho, _⟩ := I.ok.funs.mem hb
    exact I.base.free b o ho (I.ok.frf b hb) fun z => I.ok.exfs b z hb
theorem Inv.step {g' : Array GenState} {t' : Nat} {d' : Drawn} {ch : List Addr} (I : Inv X pins σ H s)
    (hch : ∀ b ∈ ch, (b ∈ X.ex ∨ X.s_0.heap.objs.size ≤ b) ∧ b ≠ X.env.locals ∧ (∀ x c, X.env.cells.lookup x = some c → c ≠ b) ∧ ∀ p ∈ X.pn ++ pins, p.1 ≠ b)
    (keep : ∀ b o, b ≠ X.env.locals → b ∉ X.fs → b ∉ ch → s.heap.get? b = some o → H b = none → h'.get? b = some o)
    (slot : ∀ b o, b ≠ X.env.locals → b ∈ X.fs → b ∉ ch → s.heap.get? b = some o → H b = none → ∃ sl, h'.get? b = some { o with slots := sl }) (free : ∀ b o, b ∉ ch → s.heap.get? b = some o → H b = none → H' b = none)
    (there : ∀ b o, b ∉ ch → s.heap.get? b = some o → ∃ o', h'.get? b = some o')
    (tups : ∀ b xs, H b = some (.tup xs) → H' b = some (.tup xs)) (frzs : ∀ b o u, H b = some (.frz o u) → H' b = some (.frz o u)) (tbls : ∀ b ps, H b = some (.tbl ps) → ∃ more, H' b = some (.tbl (ps ++ more)))
    (ns : ∀ m, s.heap.Ns X.env.locals m → h'.Ns X.env.locals m) (hok : HOk X.prog X.w H' h') (hg : AllBare g') :
    Inv X pins σ H' { s with heap := h', gens := g', drawn := d', toks := t' } := by
  have neL : ∀ b o, X.s_0.heap.get? b = some o → b ≠ X.env.locals := fun b o e => Nat.ne_of_lt (Nat.lt_of_lt_of_le (Heap.lt_size e) I.ok.above)
  have neC : ∀ b o, X.s_0.heap.get? b = some o → b ∉ X.ex → b ∉ ch := fun b o e hx hb => by
    rcases (hch b hb).1 with z | z
    · exact hx z
    · exact absurd (Nat.lt_of_lt_of_le (Heap.lt_size e) z) (Nat.lt_irrefl _)
  have cellK : ∀ x c, X.env.cells.lookup x = some c → ∀ v, s.heap.IsCell c v → h'.IsCell c v := fun x c e v ⟨o, ho, hd⟩ => by
    have nch : c ∉ ch := fun z => (hch c z).2.2.1 x c e rfl
    by_cases hc : c ∈ X.fs
    · obtain ⟨sl, q⟩ := slot c o (I.cne x c e) hc nch ho (I.freeC x c e)
      exact ⟨_, q, hd⟩
    · exact ⟨o, keep c o (I.cne x c e) hc nch ho (I.freeC x c e), hd⟩
  refine ⟨I.ok, I.os, hg, ⟨fun b o e n hb hx => ?_, fun b o e n hb hx => ?_, fun b o e n hx => ?_, fun b o e hx => ?_, fun b xs e => tups b xs (I.base.tups b xs e), fun b o xs e => frzs b o xs (I.base.frzs b o xs e), fun b ps e => ?_⟩, ?_, fun x c e => ?_, ?_, fun x c e => ?_, fun p hp => ?_, hok, I.len⟩
  · exact keep b o (neL b o e) hb (neC b o e hx) (I.base.keep b o e n hb hx) (I.base.free b o e n hx)
  · obtain ⟨sl, e1⟩ := I.base.slot b o e n hb hx
    obtain ⟨sl', e2⟩ := slot b _ (neL b o e) hb (neC b o e hx) e1 (I.base.free b o e n hx)
    exact ⟨sl', e2⟩
  · obtain ⟨o', e1⟩ := I.base.there b o e hx
    exact free b o' (neC b o e hx) e1 (I.base.free b o e n hx)
  · obtain ⟨o', e1⟩ := I.base.there b o e hx
    exact there b o' (neC b o e hx) e1
  · obtain ⟨m1, e1⟩ := I.base.tbls b ps e
    obtain ⟨m2, e2⟩ := tbls b _ e1
    exact ⟨m1 ++ m2, by rw [e2, Array.append_assoc]⟩
  · obtain ⟨m, hn, hl⟩ := I.loc
    refine ⟨m, ns m hn, fun i x v e1 e2 e3 => ?_⟩
    obtain ⟨u, r, l⟩ := hl i x v e1 e2 e3
    refine ⟨u, r, ?_⟩
    rcases l with l | ⟨k, c, e, z⟩
    · exact .inl l
    · exact .inr ⟨k, c, e, cellK x c e _ z⟩
  · obtain ⟨v, z⟩ := I.cell x c e
    exact ⟨v, cellK x c e v z⟩
  · obtain ⟨m, ⟨o, _, _, ho, _⟩, _⟩ := I.loc
    exact free _ o (fun z => (hch _ z).2.1 rfl) ho I.free
  · obtain ⟨v, o, ho, hd⟩ := I.cell x c e
    exact free c o (fun z => (hch c z).2.2.1 x c e rfl) ho (I.freeC x c e)
  · obtain ⟨e, n, ne, nf, d⟩ := I.pin p hp
    have nch : p.1 ∉ ch := fun z => (hch p.1 z).2.2.2 p hp rfl
    exact ⟨keep p.1 p.2 ne nf nch e n, free p.1 p.2 nch e n, ne, nf, d⟩
theorem Inv.un {t' : Nat} (I : Inv X pins σ H s) (u : Un X.fs [] H H' s.heap h') (hok : HOk X.prog X.w H' h') : Inv X pins σ H' { s with heap := h', toks := t' } := by
  obtain ⟨m, ⟨o, es, ep, ho, r⟩, _⟩ := id I.loc
  obtain ⟨sl, hL⟩ := u.any ho I.free (by simp)
  exact I.step (g' := s.gens) (d' := s.drawn) (ch := []) (fun _ z => nomatch z) (fun b o _ hb _ e n => u.keep b o e n hb (by simp)) (fun b o _ hb _ e n => u.slot b o e n hb (by simp)) (fun b o _ e n => u.free b o e n (by simp)) (fun b o _ e => u.there b o e (by simp)) u.tups u.frzs u.tbls (fun m' hm => by
    obtain ⟨o', es', ep', ho', r'⟩ := hm
    rw [ho] at ho'; cases ho'
    exact ⟨_, es', ep', hL, r'⟩) hok I.bare
theorem Inv.call {g' : Array GenState} {t' : Nat} {d' : Drawn} {ch : List Addr} (I : Inv X pins σ H s) (u : Un (frs X.stack) ch H H' s.heap h') (hok : HOk X.prog X.w H' h') (hg : AllBare g')
    (hch : ∀ b ∈ ch, (b ∈ X.ex ∨ X.s_0.heap.objs.size ≤ b) ∧ b ≠ X.env.locals ∧ (∀ x c, X.env.cells.lookup x = some c → c ≠ b) ∧ ∀ p ∈ X.pn ++ pins, p.1 ≠ b) :
    Inv X pins σ H' { s with heap := h', gens := g', drawn := d', toks := t' } := by
  obtain ⟨m, ⟨o, es, ep, ho, r⟩, _⟩ := id I.loc
  obtain ⟨sl, hL⟩ := u.any ho I.free fun z => (hch _ z).2.1 rfl
  exact I.step (ch := ch) hch (fun b o hL hb hc e n => u.keep b o e n (fun z => (List.mem_cons.mp (I.stkSub b z)).elim hL hb) hc) (fun b o _ _ hc e n => u.any e n hc) (fun b o hc e n => u.free b o e n hc) (fun b o hc e => u.there b o e hc) u.tups u.frzs u.tbls (fun m' hm => by
    obtain ⟨o', es', ep', ho', r'⟩ := hm
    rw [ho] at ho'; cases ho'
    exact ⟨_, es', ep', hL, r'⟩) hok hg
theorem Inv.turned {t' : Nat} {it : Addr} (I : Inv X pins σ H s) (k : ∀ b o, b ≠ it → s.heap.get? b = some o → h'.get? b = some o) (hn : H it = none) (hL : it ≠ X.env.locals)
    (h1 : it ∈ X.ex ∨ X.s_0.heap.objs.size ≤ it) (h2 : ∀ x c, X.env.cells.lookup x = some c → c ≠ it) (h3 : ∀ p ∈ X.pn ++ pins, p.1 ≠ it) : Inv X pins σ H { s with heap := h', toks := t' } := by
  have nit : ∀ b u, H b = some u → b ≠ it := fun b u e z => by rw [z, hn] at e; cases e
  refine I.step (g' := s.gens) (d' := s.drawn) (ch := [it]) (fun b hb => ?_) (fun b o _ _ hc e _ => k b o (fun z => hc (by simp [z])) e) (fun b o _ _ hc e _ => ⟨o.slots, k b o (fun z => hc (by simp [z])) e⟩) (fun _ _ _ _ n => n)
    (fun b o hc e => ⟨o, k b o (fun z => hc (by simp [z])) e⟩) (fun _ _ e => e) (fun _ _ _ e => e) (fun b ps e => ⟨#[], by rw [e]; simp⟩) (fun m hm => ?_) (fun b u e => ?_) I.bare
  · have e : b = it := by simpa using hb
    subst e
    exact ⟨h1, hL, h2, h3⟩
  · obtain ⟨o, es, ep, ho, r⟩ := hm
    exact ⟨o, es, ep, k _ o (Ne.symm hL) ho, r⟩
  · refine (I.hok b u e).stay (fun c v hc q => k c v ?_ q) (fun _ q => q) fun _ _ q => q
    rcases hc with z | z
    · rw [z]; exact nit b u e
    · exact nit c _ z
theorem Inv.tok (I : Inv X pins σ H s) (t : Nat) : Inv X pins σ H { s with toks := t } := I.un (h' := s.heap) (t' := t) Un.refl I.hok
theorem Inv.kept {t' : Nat} (I : Inv X pins σ H s) (k : ∀ b u, s.heap.get? b = some u → h'.get? b = some u) : Inv X pins σ H { s with heap := h', toks := t' } := I.un (Un.kept k) (I.hok.kept k)
theorem Inv.laid {a : Addr} {o : HO} {t' : Nat} (I : Inv X pins σ H s) (k : ∀ b u, s.heap.get? b = some u → h'.get? b = some u) (hp : s.heap.objs.size ≤ a) (new : ObjOk X.prog X.w (upd H a o) h' a o) :
    Inv X pins σ (upd H a o) { s with heap := h', toks := t' } := I.un (Un.laid k hp (I.hok.fresh hp)) (I.hok.laid k hp new)
theorem Inv.write {x e : Addr} {o : HO} {t' : Nat} (I : Inv X pins σ H s) (mu : Mut (H x)) (he : e = x ∨ H e = some (.own x)) (k : ∀ b u, b ≠ e → s.heap.get? b = some u → h'.get? b = some u) (heo : ∃ u, h'.get? e = some u)
    (new : ObjOk X.prog X.w (upd H x o) h' x o) : Inv X pins σ (upd H x o) { s with heap := h', toks := t' } := I.un (Un.write mu he k heo) (I.hok.write mu he k heo new)
theorem Inv.weak {σ' : List (Option V)} (I : Inv X pins σ H s) (hl : σ'.length = σ.length) (w : ∀ (i : Nat) v, σ'[i]? = some (some v) → σ[i]? = some (some v)) : Inv X pins σ' H s :=
  ⟨I.ok, I.os, I.bare, I.base, let ⟨m, hn, hl'⟩ := I.loc; ⟨m, hn, fun i x v e1 e2 e3 => hl' i x v e1 (w i v e2) e3⟩, I.cell, I.free, I.freeC, I.pin, I.hok, hl.trans I.len⟩
theorem Inv.pins_of {pins' : List (Addr × Obj)} (I : Inv X pins σ H s) (h : ∀ p ∈ pins', s.heap.get? p.1 = some p.2 ∧ H p.1 = none ∧ p.1 ≠ X.env.locals ∧ p.1 ∉ X.fs ∧ ∀ v, p.2.data ≠ .cell v) : Inv X pins' σ H s :=
  ⟨I.ok, I.os, I.bare, I.base, I.loc, I.cell, I.free, I.freeC, fun p hp => (List.mem_append.mp hp).elim (fun z => I.pin p (List.mem_append_left _ z)) (h p), I.hok, I.len⟩
theorem nodup_ix {N : List Str} (hN : N.Nodup) {i j : Nat} {x : Str} (a : N[i]? = some x) (b : N[j]? = some x) : i = j := by
  obtain ⟨h1, e1⟩ := List.getElem?_eq_some_iff.mp a
  obtain ⟨h2, e2⟩ := List.getElem?_eq_some_iff.mp b
  exact (List.getElem_inj hN).mp (e1.trans e2.symm)
theorem store_ok2 {M : Model} {A : Around} {E : Value → Shared → Prop} {i : Nat} {x : Str} {v : V} {u : Value} {Q : Unit → Shared → Prop} (I : Inv X pins σ H s) (hN : X.N.Nodup) (hi : X.N[i]? = some x) (hx : Loc X.env.scope x) (r : RelV v u)
    (h : ∀ s', Inv X pins (σ.set i (some v)) H s' → (∃ a, Heap.SameBut a s.heap s'.heap ∧ (a = X.env.locals ∨ X.env.cells.lookup x = some a)) → Q () s') (hf : X.fn x = true ∨ X.env.scope.names.lookup x = some .local := by first | exact .inl rfl | exact .inr rfl | assumption) : wpAny M A (storeName X.env x u) Q E s := by
  obtain ⟨m, hn, hl⟩ := id I.loc
  have hcls : (X.env.scope.kind == .class || (X.env.scope.kind == .module && X.env.locals != X.env.globals)) = false := by rw [I.ok.kind]; rfl
  have hiσ : i < σ.length := by rw [I.len]; exact (List.getElem?_eq_some_iff.mp hi).1
  have cne := I.cne
  have tracked : ∀ {a : Addr} {h' : Heap}, (∃ o, s.heap.get? a = some o ∧ H a = none) → Heap.SameBut a s.heap h' → HOk X.prog X.w H h' := fun {a h'} ha hs b ob e => by
    obtain ⟨_, _, hfree⟩ := ha
    refine (I.hok b ob e).stay (fun c w' hc q => (hs.2 c ?_).trans q) (fun _ q => q) fun _ _ q => q
    rintro rfl
    rcases hc with rfl | hc
    · rw [hfree] at e; cases e
    · rw [hfree] at hc; cases hc
  rcases hx with hk | hk
  · refine wpAny_storeName_local hk hn (fun h' hn' hs => ?_) hcls
    obtain ⟨oL, _, _, hoL, _⟩ := id hn
    refine h _ ⟨I.ok, I.os, I.bare, ⟨fun b o e n hb hx => ?_, fun b o e n hb hx => ?_, I.base.free, fun b o e hx => ?_, I.base.tups, I.base.frzs, I.base.tbls⟩, ⟨_, hn', fun j y v' e1 e2 e3 => ?_⟩, fun y c e => ?_, I.free, I.freeC, fun p hp => ?_, tracked ⟨oL, hoL, I.free⟩ hs, by simpa using I.len⟩ ⟨_, hs, .inl rfl⟩
    · exact (hs.2 b (Nat.ne_of_lt (Nat.lt_of_lt_of_le (Heap.lt_size e) I.ok.above))).trans (I.base.keep b o e n hb hx)
    · obtain ⟨sl, e1⟩ := I.base.slot b o e n hb hx
      exact ⟨sl, (hs.2 b (Nat.ne_of_lt (Nat.lt_of_lt_of_le (Heap.lt_size e) I.ok.above))).trans e1⟩
    · obtain ⟨o', e1⟩ := I.base.there b o e hx
      exact ⟨o', (hs.2 b (Nat.ne_of_lt (Nat.lt_of_lt_of_le (Heap.lt_size e) I.ok.above))).trans e1⟩
    · by_cases hj : j = i
      · subst hj
        rw [hi] at e1; cases e1
        rw [List.getElem?_set_self hiσ] at e2
        cases e2
        exact ⟨u, r, .inl ⟨hk, by simp⟩⟩
      · rw [List.getElem?_set_ne (Ne.symm hj)] at e2
        obtain ⟨u', r', q⟩ := hl j y v' e1 e2 e3
        refine ⟨u', r', ?_⟩
        rcases q with ⟨k, e⟩ | ⟨k, c, e, z⟩
        · refine .inl ⟨k, ?_⟩
          have : y ≠ x := fun e => hj (nodup_ix hN e1 (e ▸ hi))
          simp [this, e]
        · exact .inr ⟨k, c, e, z.sameBut hs (cne y c e)⟩
    · obtain ⟨w', z⟩ := I.cell y c e
      exact ⟨w', z.sameBut hs (cne y c e)⟩
    · obtain ⟨e, n, ne, nf, d⟩ := I.pin p hp
      exact ⟨(hs.2 p.1 ne).trans e, n, ne, nf, d⟩
  · have hfn : X.fn x = true := by
      rcases hf with z | z
      · exact z
      · rw [z] at hk; cases hk
    obtain ⟨c, hc⟩ := I.ok.has x (.inl hk)
    obtain ⟨w', z⟩ := I.cell x c hc
    refine wpAny_storeName_cell I.ok.kind hk hc z (fun h' hc' hs => ?_)
    obtain ⟨oc, hoc, hocd⟩ := id z
    refine h { s with heap := h' } ⟨I.ok, I.os, I.bare, ⟨fun b o e n hb hx => ?_, fun b o e n hb hx => ?_, I.base.free, fun b o e hx => ?_, I.base.tups, I.base.frzs, I.base.tbls⟩, ⟨m, hn.sameBut hs (Ne.symm (cne x c hc)), fun j y v' e1 e2 e3 => ?_⟩, fun y c' e => ?_, I.free, I.freeC, fun p hp => ?_, tracked ⟨oc, hoc, I.freeC x c hc⟩ hs, by simpa using I.len⟩ ⟨c, hs, .inr hc⟩
    · exact (hs.2 b (Nat.ne_of_lt (Nat.lt_of_lt_of_le (Heap.lt_size e) (I.ok.cab x c hfn hc)))).trans (I.base.keep b o e n hb hx)
    · obtain ⟨sl, e1⟩ := I.base.slot b o e n hb hx
      exact ⟨sl, (hs.2 b (Nat.ne_of_lt (Nat.lt_of_lt_of_le (Heap.lt_size e) (I.ok.cab x c hfn hc)))).trans e1⟩
    · obtain ⟨o', e1⟩ := I.base.there b o e hx
      exact ⟨o', (hs.2 b (Nat.ne_of_lt (Nat.lt_of_lt_of_le (Heap.lt_size e) (I.ok.cab x c hfn hc)))).trans e1⟩
    · by_cases hj : j = i
      · subst hj
        rw [hi] at e1; cases e1
        rw [List.getElem?_set_self hiσ] at e2
        cases e2
        exact ⟨u, r, .inr ⟨.inl hk, c, hc, hc'⟩⟩
      · rw [List.getElem?_set_ne (Ne.symm hj)] at e2
        obtain ⟨u', r', q⟩ := hl j y v' e1 e2 e3
        refine ⟨u', r', ?_⟩
        rcases q with q | ⟨k, c', e, z'⟩
        · exact .inl q
        · refine .inr ⟨k, c', e, z'.sameBut hs ?_⟩
          rintro rfl
          exact hj (nodup_ix hN e1 (I.ok.inj _ _ _ e hc ▸ hi))
    · by_cases hcc : c' = c
      · subst hcc; exact ⟨_, hc'⟩
      · obtain ⟨w2, z2⟩ := I.cell y c' e
        exact ⟨w2, z2.sameBut hs hcc⟩
    · obtain ⟨e, n, ne, nf, d⟩ := I.pin p hp
      refine ⟨(hs.2 p.1 ?_).trans e, n, ne, nf, d⟩
      intro q
      rw [q, hoc] at e
      have q' : oc = p.2 := Option.some.inj e
      exact d w' (by rw [← q']; exact hocd)
theorem store_ok {M : Model} {A : Around} {E : Value → Shared → Prop} {i : Nat} {x : Str} {v : V} {u : Value} {Q : Unit → Shared → Prop} (I : Inv X pins σ H s) (hN : X.N.Nodup) (hi : X.N[i]? = some x) (hx : Loc X.env.scope x) (r : RelV v u)
    (h : ∀ s', Inv X pins (σ.set i (some v)) H s' → Q () s') (hf : X.fn x = true ∨ X.env.scope.names.lookup x = some .local := by first | exact .inl rfl | exact .inr rfl | assumption) : wpAny M A (storeName X.env x u) Q E s :=
  store_ok2 I hN hi hx r (fun s' I' _ => h s' I') hf
theorem Inv.call' {s' : Shared} {ch : List Addr} (I : Inv X pins σ H s) (ho : s'.os = s.os) (u : Un (frs X.stack) ch H H' s.heap s'.heap) (hok : HOk X.prog X.w H' s'.heap) (hg : AllBare s'.gens)
    (hch : ∀ b ∈ ch, (b ∈ X.ex ∨ X.s_0.heap.objs.size ≤ b) ∧ b ≠ X.env.locals ∧ (∀ x c, X.env.cells.lookup x = some c → c ≠ b) ∧ ∀ p ∈ X.pn ++ pins, p.1 ≠ b) : Inv X pins σ H' s' := by
  obtain ⟨h', g', d', t', o'⟩ := s'
  have e : o' = s.os := ho
  subst e
  exact I.call (g' := g') (t' := t') (d' := d') u hok hg hch
end
abbrev XK := Value → Option Addr → Hp → Prop
abbrev St := List (Option V)
abbrev VK := V → Hp → Prop
abbrev TE := St → Hp → VK → Prop
abbrev TT := St → Hp → (Bool → Hp → Prop) → Prop
abbrev TA := St → Hp → (List V → Hp → Prop) → Prop
structure Ends where
  nx : St → Hp → Prop
  rt : VK
  bk : St → Hp → Prop := fun _ _ => False
  ct : St → Hp → Prop := fun _ _ => False
abbrev TS := Ends → St → Hp → Prop
def EP (X : Cx) (pins : List (Addr × Obj)) (σ : St) (Q : VK) (u : Value) (s' : Shared) : Prop := ∃ v H', Inv X pins σ H' s' ∧ RelV v u ∧ Q v H'
def TP (X : Cx) (pins : List (Addr × Obj)) (σ : St) (Q : Bool → Hp → Prop) (b : Bool) (s' : Shared) : Prop := ∃ H', Inv X pins σ H' s' ∧ Q b H'
def AP (X : Cx) (pins : List (Addr × Obj)) (σ : St) (Q : List V → Hp → Prop) (us : List Value) (s' : Shared) : Prop := ∃ vs H', Inv X pins σ H' s' ∧ Vals vs us ∧ Q vs H'
def SP (X : Cx) (pins : List (Addr × Obj)) (D : Ends) (f : Flow) (s' : Shared) : Prop :=
  match f with
  | .next => ∃ σ' H', Inv X pins σ' H' s' ∧ D.nx σ' H'
  | .brk => ∃ σ' H', Inv X pins σ' H' s' ∧ D.bk σ' H'
  | .cont => ∃ σ' H', Inv X pins σ' H' s' ∧ D.ct σ' H'
  | .ret u => ∃ v σ' H', Inv X pins σ' H' s' ∧ RelV v u ∧ D.rt v H'
def PE (X : Cx) (e : Expr) (t : TE) : Prop :=
  ∀ (pins : List (Addr × Obj)) (s : Shared) (σ : St) (H : Hp) (Q : VK), Inv X pins σ H s → t σ H Q → wpAny (model X.prog X.w) X.A (eval e X.env) (EP X pins σ Q) X.xe s
def PT (X : Cx) (e : Expr) (t : TT) : Prop :=
  ∀ (pins : List (Addr × Obj)) (s : Shared) (σ : St) (H : Hp) (Q : Bool → Hp → Prop), Inv X pins σ H s → t σ H Q → wpAny (model X.prog X.w) X.A (isTrue e X.env (eval e X.env)) (TP X pins σ Q) X.xe s
def PW (X : Cx) (e : Expr) (t : TT) : Prop :=
  ∀ (whole : Sem Value) (pins : List (Addr × Obj)) (s : Shared) (σ : St) (H : Hp) (Q : Bool → Hp → Prop), Inv X pins σ H s → t σ H Q → wpAny (model X.prog X.w) X.A (isTrue e X.env whole) (TP X pins σ Q) X.xe s
theorem PW.pt {X : Cx} {e : Expr} {t : TT} (h : PW X e t) : PT X e t := h _
def PA (X : Cx) (es : List Expr) (t : TA) : Prop :=
  ∀ (pos : Pos) (pins : List (Addr × Obj)) (s : Shared) (σ : St) (H : Hp) (Q : List V → Hp → Prop), Inv X pins σ H s → t σ H Q → wpAny (model X.prog X.w) X.A (spliced (backTo pos (starEach es X.env))) (AP X pins σ Q) X.xe s
def PS (X : Cx) (st : Stmt) (t : TS) : Prop :=
  ∀ (pins : List (Addr × Obj)) (s : Shared) (σ : St) (H : Hp) (D : Ends), Inv X pins σ H s → t D σ H → wpAny (model X.prog X.w) X.A (exec st X.env) (SP X pins D) X.xe s
def PSs (X : Cx) (st : List Stmt) (t : TS) : Prop :=
  ∀ (pins : List (Addr × Obj)) (s : Shared) (σ : St) (H : Hp) (D : Ends), Inv X pins σ H s → t D σ H → wpAny (model X.prog X.w) X.A (execs st X.env) (SP X pins D) X.xe s
theorem thn {α : Type} {t : Sem α} {Q Q' : α → Shared → Prop} {M : Model} {A : Around} {E : Value → Shared → Prop} {s : Shared} (h : wpAny M A t Q E s) (hQ : ∀ a s, Q a s → Q' a s) : wpAny M A t Q' E s := wpAny_mono h hQ fun _ _ x => x
end L2
namespace L2
open PySem PySem.Spec PyProof.Rows
section
variable {X : Cx}
def tVar (i : Nat) : TE := fun σ H Q => ∃ v, σ[i]? = some (some v) ∧ Q v H
def tC (v : V) : TE := fun _ H Q => Q v H
theorem pe_var {i : Nat} {x : Str} {pos : Pos} (hN : X.N[i]? = some x) (hv : Vis X.env.scope x) (hd : (x == ("__debug__" : Str)) = false := by decide) (hcd : (x == ("__classdict__" : Str)) = false := by decide) : PE X (.Name x pos) (tVar i) := by
  intro pins s σ H Q I h
  obtain ⟨v, e, h⟩ := h
  obtain ⟨m, hn, hl⟩ := I.loc
  obtain ⟨u, r, l⟩ := hl i x v hN e hv
  have fin : EP X pins σ Q u s := ⟨v, H, I, r, h⟩
  rcases l with ⟨hk, hm⟩ | ⟨hk, c, hc, hcell⟩
  · exact wpAny_Name (wpAny_loadName_local I.ok.kind hk hn hm fin) hd
  · rcases hk with hk | hk
    · exact wpAny_Name (wpAny_loadName_cell I.ok.kind hk hc hcell fin) hd
    · exact wpAny_Name (wpAny_loadName_free I.ok.kind hk hc hcell fin hcd) hd
theorem pe_int {i j pos} : PE X (.Constant (.int i) j pos) (tC (.int i)) := fun _ _ _ H _ I h => wpAny_Constant_int ⟨.int i, H, I.tok _, ⟨_, rfl⟩, h⟩
theorem pe_bl {b j pos} : PE X (.Constant (.bool b) j pos) (tC (.bl b)) := fun _ _ _ H _ I h => Constant_bool ⟨.bl b, H, I, rfl, h⟩
theorem pe_non {j pos} : PE X (.Constant .none j pos) (tC .non) := fun _ _ _ H _ I h => Constant_none ⟨.non, H, I, rfl, h⟩
def Gl (X : Cx) (x : Str) : Prop := X.env.kindOf x = some .globalImplicit
theorem ld_glob {E : Value → Shared → Prop} {pins : List (Addr × Obj)} {s : Shared} {σ : St} {H : Hp} {x : Str} {u : Value} {pos : Pos} {Q : Value → Shared → Prop} (I : Inv X pins σ H s) (hg : Gl X x) (hm : X.mg x = some u) (h : Q u s)
    (hd : (x == ("__debug__" : Str)) = false := by decide) : wpAny (model X.prog X.w) X.A (eval (.Name x pos) X.env) Q E s :=
  Calls.Name_function_global I.ok.kind hg (Calls.loadGlobal_global (by rw [I.ok.glob]; exact I.mod.glob.keeps I.bk) hm h) hd
theorem ld_blt {E : Value → Shared → Prop} {pins : List (Addr × Obj)} {s : Shared} {σ : St} {H : Hp} {x : Str} {u : Value} {pos : Pos} {Q : Value → Shared → Prop} (I : Inv X pins σ H s) (hg : Gl X x) (hm : X.mg x = none) (hv : bootBuiltins x = some u) (h : Q u s)
    (hn : x ≠ "__name__" := by decide) (hd : (x == ("__debug__" : Str)) = false := by decide) : wpAny (model X.prog X.w) X.A (eval (.Name x pos) X.env) Q E s := by
  obtain ⟨mb, h1, h2⟩ := I.mod.blt
  exact Calls.Name_function_global I.ok.kind hg (Calls.loadGlobal_builtin (by rw [I.ok.glob]; exact I.mod.glob.keeps I.bk) hm (by rw [I.ok.blt]; exact h1.keeps I.bk) ((h2 x hn).trans hv) h) hd
theorem pe_glob {x : Str} {v : V} {u : Value} {pos : Pos} (hg : Gl X x) (hm : X.mg x = some u) (r : RelV v u) (hd : (x == ("__debug__" : Str)) = false := by decide) : PE X (.Name x pos) (tC v) :=
  fun _ _ _ H _ I h => ld_glob I hg hm ⟨v, H, I, r, h⟩ hd
variable {a b : Expr} {ta tb : TE} {pos : Pos}
def tB (t : TE) : TT := fun σ H Q => t σ H fun x H1 => ∃ c, x = .bl c ∧ Q c H1
theorem pt_val {e : Expr} {t : TE} (h : PE X e t) (he : ∀ whole, isTrue e X.env whole = (do let v ← whole; standAt e.pos; holding [v] (truthy v)) := by intro _; rfl) : PT X e (tB t) := by
  intro pins s σ H Q I hw
  refine isTrue_plain (thn (h pins s σ H _ I hw) fun v s1 ⟨x, H1, I1, r1, q1⟩ => ?_) (he _)
  obtain ⟨d, rfl, q⟩ := q1
  cases r1
  exact wpAny_truthy_bool ⟨H1, I1, q⟩
variable {tA tB' : TT} {rest : List Expr}
def tAnd (t u : TT) : TT := fun σ H Q => t σ H fun c H1 => if c = true then u σ H1 Q else Q false H1
def tOr (t u : TT) : TT := fun σ H Q => t σ H fun c H1 => if c = true then Q true H1 else u σ H1 Q
def tNot (t : TT) : TT := fun σ H Q => t σ H fun c H1 => Q (!c) H1
theorem pw_and1 (ha : PT X a tA) : PW X (.BoolOp .And [a] pos) tA := by
  intro wh pins s σ H Q I h
  refine isTrue_and (thn (ha pins s σ H Q I h) fun c s1 e => ?_)
  cases c with
  | true => exact isTrue_and_nil e
  | false => exact e
theorem pw_or1 (ha : PT X a tA) : PW X (.BoolOp .Or [a] pos) tA := by
  intro wh pins s σ H Q I h
  refine isTrue_or (thn (ha pins s σ H Q I h) fun c s1 e => ?_)
  cases c with
  | false => exact isTrue_or_nil e
  | true => exact e
theorem pw_and (ha : PT X a tA) (hb : PW X (.BoolOp .And (b :: rest) pos) tB') : PW X (.BoolOp .And (a :: b :: rest) pos) (tAnd tA tB') := by
  intro wh pins s σ H Q I h
  refine isTrue_and (thn (ha pins s σ H _ I h) fun c s1 ⟨H1, I1, q1⟩ => ?_)
  cases c with
  | true => exact hb wh pins s1 σ H1 Q I1 q1
  | false => exact ⟨H1, I1, q1⟩
theorem pw_or (ha : PT X a tA) (hb : PW X (.BoolOp .Or (b :: rest) pos) tB') : PW X (.BoolOp .Or (a :: b :: rest) pos) (tOr tA tB') := by
  intro wh pins s σ H Q I h
  refine isTrue_or (thn (ha pins s σ H _ I h) fun c s1 ⟨H1, I1, q1⟩ => ?_)
  cases c with
  | true => exact ⟨H1, I1, q1⟩
  | false => exact hb wh pins s1 σ H1 Q I1 q1
theorem pt_not (ha : PT X a tA) : PT X (.UnaryOp .Not a pos) (tNot tA) := by
  intro pins s σ H Q I h
  exact isTrue_not (ha pins s σ H (fun c H1 => Q (!c) H1) I h)
def tAndV (ta tb : TE) : TE := fun σ H Q => ta σ H fun x H1 => ∃ c, x = .bl c ∧ if c = true then tb σ H1 Q else Q (.bl false) H1
def tOrV (ta tb : TE) : TE := fun σ H Q => ta σ H fun x H1 => ∃ c, x = .bl c ∧ if c = true then Q (.bl true) H1 else tb σ H1 Q
theorem pe_one {op} {t : TE} (h : PE X a t) : PE X (.BoolOp op [a] pos) t := fun pins s σ H Q I hw => BoolOp_one (h pins s σ H Q I hw)
theorem pe_and (ha : PE X a ta) (hb : PE X (.BoolOp .And (b :: rest) pos) tb) : PE X (.BoolOp .And (a :: b :: rest) pos) (tAndV ta tb) := by
  intro pins s σ H Q I h
  refine BoolOp_and (thn (ha pins s σ H _ I h) fun v s1 ⟨x, H1, I1, r1, q1⟩ => ?_)
  obtain ⟨c, rfl, q1⟩ := q1
  cases r1
  refine wpAny_truthy_bool ?_
  cases c with
  | true => exact hb pins s1 σ H1 Q I1 q1
  | false => exact ⟨.bl false, H1, I1, rfl, q1⟩
theorem pe_or (ha : PE X a ta) (hb : PE X (.BoolOp .Or (b :: rest) pos) tb) : PE X (.BoolOp .Or (a :: b :: rest) pos) (tOrV ta tb) := by
  intro pins s σ H Q I h
  refine BoolOp_or (thn (ha pins s σ H _ I h) fun v s1 ⟨x, H1, I1, r1, q1⟩ => ?_)
  obtain ⟨c, rfl, q1⟩ := q1
  cases r1
  refine wpAny_truthy_bool ?_
  cases c with
  | false => exact hb pins s1 σ H1 Q I1 q1
  | true => exact ⟨.bl true, H1, I1, rfl, q1⟩
def tIf (t : TT) (ta tb : TE) : TE := fun σ H Q => t σ H fun c H1 => if c = true then ta σ H1 Q else tb σ H1 Q
theorem pe_ifExp {c : Expr} (hc : PT X c tA) (ha : PE X a ta) (hb : PE X b tb) : PE X (.IfExp c a b pos) (tIf tA ta tb) := by
  intro pins s σ H Q I h
  refine wpAny_IfExp (thn (hc pins s σ H _ I h) fun d s1 ⟨H1, I1, q1⟩ => ?_)
  cases d with
  | true => exact ha pins s1 σ H1 Q I1 q1
  | false => exact hb pins s1 σ H1 Q I1 q1
end
end L2
namespace L2
open PySem PySem.Spec PyProof.Rows
def SqL (K : PySem.W.Frag) (H : Hp) (a : Addr) (xs : List V) : Prop :=
  Rd H a (.lst xs) ∨
    ∃ (o : Obj) (its : Array Value) (n : Nat), K.lookup a = some o ∧ o.cls = .type "list" ∧ o.dict = none ∧ o.data = .seq its n ∧ its.size ≤ sizeLine ∧ Vals xs its.toList
def SqT (K : PySem.W.Frag) (H : Hp) (a : Addr) (xs : List V) : Prop :=
  Rd H a (.tup xs) ∨
    ∃ (o : Obj) (its : Array Value) (n : Nat), K.lookup a = some o ∧ o.cls = .type "tuple" ∧ o.data = .seq its n ∧ its.size ≤ sizeLine ∧ Vals xs its.toList
def absV : Value → Option V
  | .none => some .non
  | .bool b => some (.bl b)
  | .int i _ => some (.int i)
  | .str x _ => some (.str x)
  | .bytes b _ => some (.byt b)
  | .float b _ => some (.flt b)
  | .ref a => some (.ref a)
  | .type n => some (.ty n)
  | _ => none
theorem RelV.abs {x : V} {u : Value} (r : RelV x u) : absV u = some x := by
  cases x with
  | non => cases r; rfl
  | bl _ => cases r; rfl
  | int _ => obtain ⟨t, rfl⟩ := r; rfl
  | str _ => obtain ⟨t, rfl⟩ := r; rfl
  | byt _ => obtain ⟨t, rfl⟩ := r; rfl
  | flt _ => obtain ⟨t, rfl⟩ := r; rfl
  | ref _ => cases r; rfl
  | ty _ => cases r; rfl
theorem RelV.inj {x y : V} {u : Value} (r : RelV x u) (q : RelV y u) : x = y := Option.some.inj (r.abs.symm.trans q.abs)
theorem Vals.inj : ∀ {xs ys : List V} {us : List Value}, Vals xs us → Vals ys us → xs = ys
  | _, _, _, .nil, .nil => rfl
  | _, _, _, .cons r t, .cons r' t' => by rw [r.inj r', Vals.inj t t']
section
variable {X : Cx} {pins : List (Addr × Obj)} {σ : St} {H : Hp} {s : Shared} {a : Addr} {xs ys : List V}
theorem SqL.of {K : PySem.W.Frag} (h : H a = some (.lst xs)) : SqL K H a xs := .inl (.inl h)
theorem SqT.of {K : PySem.W.Frag} (h : H a = some (.tup xs)) : SqT K H a xs := .inl (.inl h)
theorem Inv.list (I : Inv X pins σ H s) (h : SqL X.K H a xs) : ∃ its : List Value, Vals xs its ∧ PlainL s.heap a its.toArray ∧ xs.length ≤ sizeLine := by
  rcases h with h | ⟨o, its, n, hk, hc, hd, hs, hz, r⟩
  · obtain ⟨z, its, n, r, e⟩ := h.ok I.hok
    exact ⟨its, r, ⟨_, n, e, rfl, rfl, rfl⟩, z⟩
  · refine ⟨its.toList, r, ⟨o, n, I.kIn a o hk, hc, hd, by simpa using hs⟩, ?_⟩
    have e := r.length
    simp only [Array.length_toList] at e
    omega
theorem Inv.tuple (I : Inv X pins σ H s) (h : SqT X.K H a xs) : ∃ its : List Value, Vals xs its ∧ IsTup s.heap a its.toArray ∧ xs.length ≤ sizeLine := by
  rcases h with h | ⟨o, its, n, hk, hc, hs, hz, r⟩
  · obtain ⟨z, its, r, p⟩ := h.ok I.hok
    exact ⟨its, r, p, z⟩
  · refine ⟨its.toList, r, ⟨o, I.kIn a o hk, hc, n, by simpa using hs⟩, ?_⟩
    have e := r.length
    simp only [Array.length_toList] at e
    omega
theorem Inv.list_inj (I : Inv X pins σ H s) (h : SqL X.K H a xs) (h' : SqL X.K H a ys) : xs = ys := by
  obtain ⟨its, r, ⟨o, n, e, _, _, d⟩, _⟩ := I.list h
  obtain ⟨its', r', ⟨o', n', e', _, _, d'⟩, _⟩ := I.list h'
  rw [e] at e'; cases e'
  rw [d] at d'
  injection d' with d1 _
  have : its = its' := by simpa using congrArg Array.toList d1
  subst this
  exact r.inj r'
end
abbrev Cx.wish (X : Cx) (E : Value → Shared → Prop) : Cx := { X with xe := E }
abbrev Cx.nox (X : Cx) : Cx := X.wish fun _ _ => False
theorem Cx.Ok.wish {X : Cx} (ok : X.Ok) (E : Value → Shared → Prop) : (X.wish E).Ok :=
  ⟨ok.mod, ok.kind, ok.glob, ok.blt, ok.above, ok.inj, ok.has, ok.cab, ok.hd, ok.frames, ok.stk, ok.exf, ok.bs, ok.bsz, ok.noex, ok.exfs, ok.funs, ok.frf⟩
theorem Cx.Ok.unwish {X : Cx} {E : Value → Shared → Prop} (ok : (X.wish E).Ok) : X.Ok :=
  ⟨ok.mod, ok.kind, ok.glob, ok.blt, ok.above, ok.inj, ok.has, ok.cab, ok.hd, ok.frames, ok.stk, ok.exf, ok.bs, ok.bsz, ok.noex, ok.exfs, ok.funs, ok.frf⟩
section
variable {X : Cx} {pins : List (Addr × Obj)} {σ : St} {H : Hp} {s : Shared} {E : Value → Shared → Prop}
theorem Inv.wish (I : Inv X pins σ H s) (E : Value → Shared → Prop) : Inv (X.wish E) pins σ H s := ⟨I.ok.wish E, I.os, I.bare, I.base, I.loc, I.cell, I.free, I.freeC, I.pin, I.hok, I.len⟩
theorem Inv.unwish (I : Inv (X.wish E) pins σ H s) : Inv X pins σ H s := ⟨I.ok.unwish, I.os, I.bare, I.base, I.loc, I.cell, I.free, I.freeC, I.pin, I.hok, I.len⟩
theorem SP.unwish {D : Ends} {f : Flow} {s' : Shared} (h : SP (X.wish E) pins D f s') : SP X pins D f s' := by
  cases f with
  | next => obtain ⟨σ', H', I, q⟩ := h; exact ⟨σ', H', I.unwish, q⟩
  | brk => obtain ⟨σ', H', I, q⟩ := h; exact ⟨σ', H', I.unwish, q⟩
  | cont => obtain ⟨σ', H', I, q⟩ := h; exact ⟨σ', H', I.unwish, q⟩
  | ret u => obtain ⟨v, σ', H', I, r, q⟩ := h; exact ⟨v, σ', H', I.unwish, r, q⟩
theorem PSs.nox {st : List Stmt} {t : TS} (h : PSs X.nox st t) : PSs X st t := fun pins s σ H D I hw =>
  wpAny_mono (h pins s σ H D (I.wish _) hw) (fun _ _ q => q.unwish) fun _ _ z => False.elim z
end
section
variable {X : Cx} {st : Stmt} {rest : List Stmt} {t u : TS} {e : Expr} {te : TE} {pos : Pos}
def tNext : TS := fun D σ H => D.nx σ H
def tSeq (t u : TS) : TS := fun D σ H => t { D with nx := u D } σ H
theorem pss_nil : PSs X [] tNext := fun _ _ σ H _ I h => wpAny_execs_nil ⟨σ, H, I, h⟩
theorem pss_cons (h1 : PS X st t) (h2 : PSs X rest u) : PSs X (st :: rest) (tSeq t u) := by
  intro pins s σ H D I h
  refine wpAny_execs_cons (thn (h1 pins s σ H { D with nx := u D } I h) fun f s1 q => ?_)
  cases f with
  | next =>
    obtain ⟨σ', H', I', q⟩ := q
    exact h2 pins s1 σ' H' D I' q
  | ret v => exact q
  | brk => exact q
  | cont => exact q
theorem pss_one (h1 : PS X st t) : PSs X [st] t := by
  intro pins s σ H D I h
  refine wpAny_execs_cons (thn (h1 pins s σ H D I h) fun f s1 q => ?_)
  cases f with
  | next => exact wpAny_execs_nil q
  | ret v => exact q
  | brk => exact q
  | cont => exact q
theorem Inv.quiet {pins : List (Addr × Obj)} {σ : St} {H : Hp} {s : Shared} (I : Inv X pins σ H s) : interactive X.env = false := by simp [interactive, I.ok.kind]
def tDrop (te : TE) : TS := fun D σ H => te σ H fun _ H1 => D.nx σ H1
theorem ps_expr (he : PE X e te) (hs : swapsWith e none pos.line X.env = pure false := by rfl) : PS X (.Expr e pos) (tDrop te) := by
  intro pins s σ H D I h
  exact wpAny_Expr_any (thn (he pins s σ H _ I h) fun v s1 ⟨x, H1, I1, r1, q1⟩ => ⟨σ, H1, I1, q1⟩) I.quiet hs
def tRet (te : TE) : TS := fun D σ H => te σ H D.rt
theorem ps_ret (he : PE X e te) : PS X (.Return (some e) pos) (tRet te) := by
  intro pins s σ H D I h
  exact wpAny_Return_some (thn (he pins s σ H _ I h) fun v s1 ⟨x, H1, I1, r1, q1⟩ => ⟨x, σ, H1, I1, r1, q1⟩)
def tIfS (c : TT) (t u : TS) : TS := fun D σ H => c σ H fun b H1 => if b = true then t D σ H1 else u D σ H1
theorem ps_if {c : Expr} {a b : List Stmt} {tc : TT} (hc : PT X c tc) (ha : PSs X a t) (hb : PSs X b u) : PS X (.If c a b pos) (tIfS tc t u) := by
  intro pins s σ H D I h
  refine wpAny_If (thn (hc pins s σ H _ I h) fun d s1 ⟨H1, I1, q1⟩ => ?_)
  cases d with
  | true => exact ha pins s1 σ H1 D I1 q1
  | false => exact hb pins s1 σ H1 D I1 q1
end
abbrev TG := V → St → Hp → (St → Hp → Prop) → Prop
abbrev TGs := List V → St → Hp → (St → Hp → Prop) → Prop
def PG (X : Cx) (target : Expr) (t : TG) : Prop :=
  ∀ (pins : List (Addr × Obj)) (s : Shared) (σ : St) (H : Hp) (v : V) (u : Value) (Q : St → Hp → Prop), Inv X pins σ H s → RelV v u → t v σ H Q →
    wpAny (model X.prog X.w) X.A (assign target X.env u) (fun _ s' => ∃ σ' H', Inv X pins σ' H' s' ∧ Q σ' H') X.xe s
def PGs (X : Cx) (ts : List Expr) (t : TGs) : Prop :=
  ∀ (pins : List (Addr × Obj)) (s : Shared) (σ : St) (H : Hp) (vs : List V) (us : List Value) (Q : St → Hp → Prop), Inv X pins σ H s → Vals vs us → t vs σ H Q →
    wpAny (model X.prog X.w) X.A (assignInOrder ((assignEach ts X.env).map (·.2)) us) (fun _ s' => ∃ σ' H', Inv X pins σ' H' s' ∧ Q σ' H') X.xe s
section
variable {X : Cx} {pos : Pos}
def gName (i : Nat) : TG := fun v σ H Q => Q (σ.set i (some v)) H
theorem pg_name {i : Nat} {x : Str} (hN : X.N.Nodup) (hi : X.N[i]? = some x) (hx : Loc X.env.scope x) (hf : X.fn x = true ∨ X.env.scope.names.lookup x = some .local := by first | exact .inl rfl | exact .inr rfl | assumption) : PG X (.Name x pos) (gName i) := by
  intro pins s σ H v u Q I r h
  exact wpAny_assign_Name (store_ok I hN hi hx r (fun s' I' => ⟨_, H, I', h⟩) hf)
def gNil : TGs := fun vs σ H Q => vs = [] ∧ Q σ H
def gCons (t : TG) (u : TGs) : TGs := fun vs σ H Q => ∃ v r, vs = v :: r ∧ t v σ H fun σ' H' => u r σ' H' Q
theorem pgs_nil : PGs X [] gNil := by
  intro pins s σ H vs us Q I r h
  obtain ⟨e, h⟩ := h
  subst e
  cases r
  exact assignInOrder_nil ⟨σ, H, I, h⟩
theorem pgs_cons {e : Expr} {es : List Expr} {t : TG} {u : TGs} (h1 : PG X e t) (h2 : PGs X es u)
    (hs : (assignEach (e :: es) X.env).map (·.2) = assign e X.env :: (assignEach es X.env).map (·.2) := by rfl) : PGs X (e :: es) (gCons t u) := by
  intro pins s σ H vs us Q I r h
  obtain ⟨v, vr, e1, h⟩ := h
  subst e1
  cases r with
  | cons r rr =>
    rw [hs]
    refine assignInOrder_cons (thn (h1 pins s σ H _ _ _ I r h) fun _ s1 ⟨σ1, H1, I1, q1⟩ => ?_)
    exact h2 pins s1 σ1 H1 _ _ Q I1 rr q1
def gTup (K : PySem.W.Frag) (n : Nat) (t : TGs) : TG := fun v σ H Q => ∃ a xs, v = .ref a ∧ SqT K H a xs ∧ xs.length = n ∧ t xs σ H Q
theorem pg_tup {es : List Expr} {k : Nat} {t : TGs} {n : Nat} (hc : X.calm = true) (h : PGs X es t)
    (hn : (assignEach es X.env).length = n := by rfl) (hst : (assignEach es X.env).findIdx? (·.1) = none := by rfl) : PG X (.Tuple es k pos) (gTup X.K n t) := by
  intro pins s σ H v u Q I r hw
  obtain ⟨a, xs, e1, hq, hl, hw⟩ := hw
  subst e1
  cases r
  obtain ⟨its, rv, ht, hz⟩ := I.tuple hq
  refine assign_Tuple_tuple (I.ok.hd hc) ht (by simp [hn, ← hl, rv.length]) hst fun h' hx => ?_
  have I1 : Inv X pins σ H { s with heap := h' } := I.kept (t' := s.toks) fun b o e => hx b o (Nat.ne_of_lt (Heap.lt_size e)) e
  exact h pins _ σ H xs _ Q I1 (by simpa using rv) hw
def tAsg (te : TE) (g : TG) : TS := fun D σ H => te σ H fun x H1 => g x σ H1 D.nx
theorem ps_set {i : Nat} {x : Str} {e : Expr} {te : TE} {pos' : Pos} (hN : X.N.Nodup) (hi : X.N[i]? = some x) (hx : Loc X.env.scope x) (he : PE X e te) (hs : swapsWith e (some (.Name x pos')) pos.line X.env = pure false := by rfl) (hf : X.fn x = true ∨ X.env.scope.names.lookup x = some .local := by first | exact .inl rfl | exact .inr rfl | assumption) :
    PS X (.Assign [.Name x pos'] e pos) (tAsg te (gName i)) := by
  intro pins s σ H D I h
  refine wpAny_Assign_Name (thn (he pins s σ H _ I h) fun v s1 ⟨y, H1, I1, r1, q1⟩ => ?_) hs
  exact store_ok I1 hN hi hx r1 (fun s2 I2 => ⟨_, H1, I2, q1⟩) hf
end
section
variable {X : Cx} {pos : Pos}
def tWhile (c : TT) (tb : TS) : TS := fun D σ H => ∃ W : Nat → St → Hp → Prop, (∃ m, W m σ H) ∧ ∀ m σ H, W m σ H →
  c σ H fun b H1 => if b = true then ∃ N : St → Hp → Prop, (∀ σ' H', N σ' H' → ∃ m', m' < m ∧ W m' σ' H') ∧ tb { D with nx := N, ct := N, bk := D.nx } σ H1 else D.nx σ H1
theorem ps_while {c : Expr} {body : List Stmt} {tc : TT} {tb : TS} (hp : PassesOwn (model X.prog X.w) X.A X.env X.xe) (hc : PT X c tc) (hb : PSs X body tb) : PS X (.While c body [] pos) (tWhile tc tb) := by
  intro pins s σ H D I h
  obtain ⟨W, ⟨m0, w0⟩, turn⟩ := h
  refine wpAny_While (codeAny_whileLoop (fun n s' => ∃ σ' H', Inv X pins σ' H' s' ∧ W n σ' H') ?_ m0 ⟨σ, H, I, w0⟩)
  rintro n s1 ⟨σ1, H1, I1, w1⟩
  refine wpAny_passesOwn hp (thn (hc pins s1 σ1 H1 _ I1 (turn n σ1 H1 w1)) fun b s2 ⟨H2, I2, q2⟩ => ?_)
  cases b with
  | true =>
    obtain ⟨N, hN, q2⟩ := q2
    rw [if_pos rfl]
    refine wpAny_passesOwn hp (thn (hb pins s2 σ1 H2 _ I2 q2) fun f s3 q3 => ?_)
    cases f with
    | next =>
      obtain ⟨σ3, H3, I3, n3⟩ := q3
      obtain ⟨m', hm, w3⟩ := hN σ3 H3 n3
      exact ⟨m', hm, σ3, H3, I3, w3⟩
    | cont =>
      obtain ⟨σ3, H3, I3, n3⟩ := q3
      obtain ⟨m', hm, w3⟩ := hN σ3 H3 n3
      exact ⟨m', hm, σ3, H3, I3, w3⟩
    | brk => exact q3
    | ret v => exact q3
  | false =>
    rw [if_neg Bool.false_ne_true]
    exact wpAny_execs_nil ⟨σ1, H2, I2, q2⟩
end
structure It where
  go : Nat → Hp → Prop
  yld : Nat → Hp → V → Hp → Prop
  stop : Nat → Hp → Prop
def FpOk (X : Cx) (pins : List (Addr × Obj)) (H : Hp) (b : Addr) : Prop :=
  H b = none ∧ b ≠ X.env.locals ∧ b ∉ X.fs ∧ (b ∈ X.ex ∨ X.s_0.heap.objs.size ≤ b) ∧ (∀ x c, X.env.cells.lookup x = some c → c ≠ b) ∧ ∀ p ∈ X.pn ++ pins, p.1 ≠ b
theorem Inv.fpOk {X : Cx} {pins : List (Addr × Obj)} {σ : St} {H H' : Hp} {s : Shared} {b : Addr} (I : Inv X pins σ H s) (hb : s.heap.objs.size ≤ b) (hn : H' b = none) : FpOk X pins H' b := by
  refine ⟨hn, Nat.ne_of_gt (Nat.lt_of_lt_of_le I.lt hb), I.nofs hb, .inr (Nat.le_trans I.sz hb), fun x c e z => ?_, fun p hp z => ?_⟩
  · obtain ⟨v, q⟩ := I.cell x c e
    exact absurd (Nat.lt_of_lt_of_le q.lt (by rw [z]; exact hb)) (Nat.lt_irrefl _)
  · exact absurd (Nat.lt_of_lt_of_le (Heap.lt_size (I.pin p hp).1) (by rw [z]; exact hb)) (Nat.lt_irrefl _)
structure Turn (P : Program) (w : World) (K : PySem.W.Frag) (tg : Expr) (J : It) (fp : List Addr) (it : Addr) (tn : Nat → Heap → Prop) : Prop where
  mem : it ∈ fp
  obj : ∀ i h, tn i h → ∀ b ∈ fp, ∃ o, h.get? b = some o ∧ ∀ v, o.data ≠ .cell v
  keep : ∀ i h h', tn i h → (∀ b ∈ fp, ∀ o, h.get? b = some o → h'.get? b = some o) → tn i h'
  item : ∀ (X : Cx), X.prog = P → X.w = w → X.K = K → X.calm = true → ∀ (i : Nat) (pins : List (Addr × Obj)) (s : Shared) (σ : St) (H : Hp) (E : Value → Shared → Prop), Inv X pins σ H s → (∀ b ∈ fp, FpOk X pins H b) → tn i s.heap → J.go i H →
    wpAny (model P w) X.A (pyNext (.ref it)) (fun r s1 => ∃ u, r = some u ∧
      wpAny (model P w) X.A (letOwnedTupleGo tg (.ref it) u) (fun _ s2 => ∃ x H', Inv X pins σ H' s2 ∧ RelV x u ∧ J.yld i H x H' ∧ tn (i + 1) s2.heap ∧ ∀ b ∈ fp, H' b = none) E s1) E s
  done : ∀ (X : Cx), X.prog = P → X.w = w → X.K = K → X.calm = true → ∀ (i : Nat) (pins : List (Addr × Obj)) (s : Shared) (σ : St) (H : Hp) (E : Value → Shared → Prop), Inv X pins σ H s → (∀ b ∈ fp, FpOk X pins H b) → tn i s.heap → J.stop i H →
    wpAny (model P w) X.A (pyNext (.ref it)) (fun r s1 => r = none ∧ Inv X pins σ H s1) E s
  self : ∀ (A : Around) (i : Nat) (s : Shared) (Q : Value → Shared → Prop) (E : Value → Shared → Prop), tn i s.heap → Q (.ref it) s → wpAny (model P w) A (pyIter (.ref it)) Q E s
abbrev TI := St → Hp → (It → Hp → Prop) → Prop
def PIE (X : Cx) (pins : List (Addr × Obj)) (σ : St) (tg : Expr) (R : It → Hp → Prop) (itv : Value) (s2 : Shared) : Prop :=
  ∃ (it : Addr) (fp : List Addr) (tn : Nat → Heap → Prop) (J : It) (H' : Hp), itv = .ref it ∧ Inv X pins σ H' s2 ∧ Turn X.prog X.w X.K tg J fp it tn ∧ tn 0 s2.heap ∧ (∀ b ∈ fp, FpOk X pins H' b) ∧ R J H'
def PI (X : Cx) (tg iter : Expr) (wi : TI) : Prop :=
  ∀ (pins : List (Addr × Obj)) (s : Shared) (σ : St) (H : Hp) (R : It → Hp → Prop), Inv X pins σ H s → wi σ H R →
    wpAny (model X.prog X.w) X.A (eval iter X.env) (fun v s1 => wpAny (model X.prog X.w) X.A (pyIter v) (PIE X pins σ tg R) X.xe s1) X.xe s
theorem go_of {M : Model} {A : Around} {E : Value → Shared → Prop} {s : Shared} {tg : Expr} {it : Addr} {u : Value} {o : Obj} {n : String} {vs : Array Value} {Q : Unit → Shared → Prop} (ho : s.heap.get? it = some o) (hc : o.cls = .type n) (hd : o.data = .fields vs)
    (hn : ["enumerate", "zip", "dict_itemiterator", "dict_reverseitemiterator", "odict_iterator", "itertools.zip_longest", "itertools.pairwise"].contains n = false) (hQ : Q () s) : wpAny M A (letOwnedTupleGo tg (.ref it) u) Q E s := by
  unfold letOwnedTupleGo
  cases tg <;> first
    | exact wpAny_pure hQ
    | (cases u <;> first
        | exact wpAny_pure hQ
        | (refine wpAny_bind (wpAny_load ho ?_)
           rw [hc, hd]
           show wpAny M A (if (["enumerate", "zip", "dict_itemiterator", "dict_reverseitemiterator", "odict_iterator", "itertools.zip_longest", "itertools.pairwise"].contains n && vs[0]? == some (rawInt _)) = true then _ else _) Q E s
           rw [if_neg (by intro h; rw [hn, Bool.false_and] at h; cases h)]
           exact wpAny_pure hQ))
def Itl (K : PySem.W.Frag) (a : Addr) : It :=
  ⟨fun i H => ∃ xs x, SqL K H a xs ∧ xs[i]? = some x, fun i H x H' => H' = H ∧ ∀ xs, SqL K H a xs → xs[i]? = some x, fun i H => ∃ xs, SqL K H a xs ∧ xs.length ≤ i⟩
def Itr (lo : Int) (n : Nat) : It := ⟨fun i _ => i < n, fun i H x H' => H' = H ∧ x = .int (lo + i), fun i _ => n ≤ i⟩
theorem turn_list {P : Program} {w : World} {K : PySem.W.Frag} {tg : Expr} (a it : Addr) : Turn P w K tg (Itl K a) [it] it (fun i h => h.IsListIter it a i) where
  mem := by simp
  obj := fun i h st b hb => by
    have e : b = it := by simpa using hb
    subst e
    obtain ⟨o, e, c, d⟩ := st
    exact ⟨o, e, fun v z => by rw [d] at z; cases z⟩
  keep := fun i h h' st k => st.at fun o e => k it (by simp) o e
  item := by
    intro X hP hw hK hc i pins s σ H E I hf st hg
    subst hP hw hK
    obtain ⟨xs, x, hq, hx⟩ := hg
    obtain ⟨its, rv, p, hz⟩ := I.list hq
    obtain ⟨u, hu, ru⟩ := rv.get hx
    obtain ⟨f0, f1, f2, f3, f4, f5⟩ := hf it (by simp)
    refine wpAny_pyNext_list_item st p.isList (x := u) (by simpa using hu) fun h' st' sb => ?_
    have I1 : Inv X pins σ H { s with heap := h' } := I.turned (t' := s.toks) (fun b o hb e => (sb.2 b hb).trans e) f0 f1 f3 f4 f5
    obtain ⟨o, e, c, d⟩ := id st'
    exact ⟨u, rfl, go_of (s := { s with heap := h' }) e c d (by decide) ⟨x, H, I1, ru, ⟨rfl, fun ys hy => by rw [I.list_inj hy hq]; exact hx⟩, st', fun b hb => (hf b hb).1⟩⟩
  done := by
    intro X hP hw hK hc i pins s σ H E I hf st hg
    subst hP hw hK
    obtain ⟨xs, hq, hx⟩ := hg
    obtain ⟨its, rv, p, hz⟩ := I.list hq
    obtain ⟨f0, f1, f2, f3, f4, f5⟩ := hf it (by simp)
    have hl := rv.length
    exact wpAny_pyNext_list_end (I.ok.hd hc) st p.isList (by simp; omega) fun h' eb => ⟨rfl, I.turned (t' := s.toks) (fun b o hb e => eb b o hb e) f0 f1 f3 f4 f5⟩
  self := fun _ _ _ _ _ st h => wpAny_pyIter_listiter st h
theorem turn_range {P : Program} {w : World} {K : PySem.W.Frag} {tg : Expr} (it : Addr) (lo : Int) (n : Nat) : Turn P w K tg (Itr lo n) [it] it (fun i h => IsRangeIter h it (lo + (i : Nat) * 1) ((n : Int) - (i : Nat)) 1) where
  mem := by simp
  obj := fun i h st b hb => by
    have e : b = it := by simpa using hb
    subst e
    exact ⟨_, st, fun v z => by
      have z' : Data.fields _ = Data.cell v := z
      cases z'⟩
  keep := fun i h h' st k => k it (by simp) _ st
  item := by
    intro X hP hw hK hc i pins s σ H E I hf st hg
    subst hP hw hK
    obtain ⟨f0, f1, f2, f3, f4, f5⟩ := hf it (by simp)
    have W := Walks.range (prog := X.prog) (w := X.w) (I.ok.hd hc) it lo 1 n
    refine W.item i s _ _ hg st fun v h' tk hv st' kk => ?_
    obtain ⟨t, rfl⟩ := hv
    have I1 : Inv X pins σ H { s with heap := h', toks := tk } := I.turned (fun b o hb e => kk b o (by simpa using hb) e) f0 f1 f3 f4 f5
    refine ⟨_, rfl, go_of (s := { s with heap := h', toks := tk }) (n := "range_iterator") st' rfl rfl (by decide) ⟨.int (lo + i), H, I1, ⟨t, ?_⟩, ⟨rfl, rfl⟩, st', fun b hb => (hf b hb).1⟩⟩
    rw [Int.mul_one]
  done := by
    intro X hP hw hK hc i pins s σ H E I hf st hg
    subst hP hw hK
    obtain ⟨f0, f1, f2, f3, f4, f5⟩ := hf it (by simp)
    exact wpAny_pyNext_range_end (I.ok.hd hc) st (by have : n ≤ i := hg; omega) fun h' eb => ⟨rfl, I.turned (t' := s.toks) (fun b o hb e => eb b o hb e) f0 f1 f3 f4 f5⟩
  self := fun _ _ _ _ _ st h => wpAny_pyIter_rangeiter st h
end L2
namespace L2
open PySem PySem.Spec PyProof.Rows
section
variable {X : Cx} {tg : Expr}
def iList (K : PySem.W.Frag) (tl : TE) : TI := fun σ H R => tl σ H fun x H1 => ∃ a, x = .ref a ∧ (∃ xs, SqL K H1 a xs) ∧ R (Itl K a) H1
theorem pi_list {l : Expr} {tl : TE} (hl : PE X l tl) : PI X tg l (iList X.K tl) := by
  intro pins s σ H R I h
  refine thn (hl pins s σ H _ I h) fun v s1 ⟨x, H1, I1, r1, q1⟩ => ?_
  obtain ⟨a, e, ⟨xs, hq⟩, q⟩ := q1
  subst e
  cases r1
  obtain ⟨its, rv, p, hz⟩ := I1.list hq
  refine wpAny_pyIter_list p.isList ?_
  refine ⟨s1.heap.objs.size, [s1.heap.objs.size], _, _, H1, rfl, I1.kept (t' := s1.toks) fun b o e => Heap.get?_push_of_some _ e, turn_list a _, ⟨_, Heap.get?_push_size _ rfl, rfl, rfl⟩, fun b hb => ?_, q⟩
  have e : b = s1.heap.objs.size := by simpa using hb
  subst e
  exact I1.fpOk (Nat.le_refl _) (I1.hok.fresh (Nat.le_refl _))
theorem range_it {pins : List (Addr × Obj)} {σ : St} {H : Hp} {s : Shared} {R : It → Hp → Prop} {E : Value → Shared → Prop} {lo hi : Int} {t u v : Tok} {tk : Nat} (I : Inv X pins σ H s) (h1 : -(2 ^ 62) ≤ lo) (h2 : lo < 2 ^ 62) (h3 : -(2 ^ 62) ≤ hi) (h4 : hi < 2 ^ 62)
    (q : R (Itr lo (hi - lo).toNat) H) : wpAny (model X.prog X.w) X.A (pyIter (.ref s.heap.objs.size)) (PIE X pins σ tg R) E { s with heap := s.heap.push { cls := .type "range", data := .fields #[.int lo t, .int hi u, .int 1 v] }, toks := tk } := by
  refine wpAny_pyIter_range (IsRange.new ..) (small_one h1 h2 h3 h4) ?_
  have I1 : Inv X pins σ H { s with heap := s.heap.push { cls := .type "range", data := .fields #[.int lo t, .int hi u, .int 1 v] }, toks := tk } := I.kept fun b o e => Heap.get?_push_of_some _ e
  refine ⟨(s.heap.push { cls := .type "range", data := .fields #[.int lo t, .int hi u, .int 1 v] }).objs.size, [(s.heap.push { cls := .type "range", data := .fields #[.int lo t, .int hi u, .int 1 v] }).objs.size], _, _, H, rfl,
    I1.kept (t' := tk) fun b o e => Heap.get?_push_of_some _ e, turn_range _ lo (hi - lo).toNat, ?_, fun b hb => ?_, q⟩
  · have e1 : lo + ((0 : Nat) : Int) * 1 = lo := by simp
    have e2 : (((hi - lo).toNat : Nat) : Int) - ((0 : Nat) : Int) = Builtin.Range.rangeSize lo hi 1 := by rw [rangeSize_one]; split <;> omega
    show IsRangeIter _ _ (lo + ((0 : Nat) : Int) * 1) ((((hi - lo).toNat : Nat) : Int) - ((0 : Nat) : Int)) 1
    rw [e1, e2]
    exact Heap.get?_push_size _ rfl
  · have e : b = (s.heap.push { cls := .type "range", data := .fields #[.int lo t, .int hi u, .int 1 v] }).objs.size := by simpa using hb
    subst e
    exact I1.fpOk (Nat.le_refl _) (I1.hok.fresh (Nat.le_refl _))
def iRng1 (ta : TA) : TI := fun σ H R => ta σ H fun vs H1 => ∃ j : Int, vs = [.int j] ∧ -(2 ^ 62) ≤ j ∧ j < 2 ^ 62 ∧ R (Itr 0 j.toNat) H1
def iRng2 (ta : TA) : TI := fun σ H R => ta σ H fun vs H1 => ∃ i j : Int, vs = [.int i, .int j] ∧ (-(2 ^ 62) ≤ i ∧ i < 2 ^ 62 ∧ -(2 ^ 62) ≤ j ∧ j < 2 ^ 62) ∧ R (Itr i (j - i).toNat) H1
theorem pi_range1 {a : Expr} {ta : TA} {p pos : Pos} (hg : Gl X "range") (hm : X.mg "range" = none) (ha : PA X [a] ta) (hs : starEach [a] X.env = [(false, eval a X.env)] := by rfl) : PI X tg (.Call (.Name "range" p) [a] [] pos) (iRng1 ta) := by
  intro pins s σ H R I h
  refine Call_ (ld_blt I hg hm boot_range (PyProof.Rows.callWith_type1 (thn (ha pos pins s σ H _ I h) fun us s1 ⟨vs, H1, I1, r1, q1⟩ => ?_) hs rfl))
  obtain ⟨j, e, q1, q2, q⟩ := q1
  subst e
  cases r1 with
  | cons r rr =>
    cases rr
    obtain ⟨t, rfl⟩ := r
    exact call_range_1 (range_it I1 (by omega) (by omega) q1 q2 (by simpa using q))
theorem pi_range2 {a b : Expr} {ta : TA} {p pos : Pos} (hg : Gl X "range") (hm : X.mg "range" = none) (ha : PA X [a, b] ta) (hs : starEach [a, b] X.env = [(false, eval a X.env), (false, eval b X.env)] := by rfl) (hs2 : starEach [b] X.env = [(false, eval b X.env)] := by rfl) :
    PI X tg (.Call (.Name "range" p) [a, b] [] pos) (iRng2 ta) := by
  intro pins s σ H R I h
  refine Call_ (ld_blt I hg hm boot_range (PyProof.Rows.callWith_type1 (thn (ha pos pins s σ H _ I h) fun us s1 ⟨vs, H1, I1, r1, q1⟩ => ?_) (by rw [hs, hs2]) (by rw [hs2]; rfl)))
  obtain ⟨i, j, e, ⟨q1, q2, q3, q4⟩, q⟩ := q1
  subst e
  cases r1 with
  | cons r rr =>
    cases rr with
    | cons r' rr =>
      cases rr
      obtain ⟨t, rfl⟩ := r
      obtain ⟨t', rfl⟩ := r'
      exact call_range_2 (range_it I1 q1 q2 q3 q4 q)
def tFor (wi : TI) (g : TG) (tb : TS) : TS := fun D σ H => wi σ H fun J H1 => ∃ W : Nat → Nat → St → Hp → Prop, (∃ m, W 0 m σ H1) ∧ ∀ i m σ H, W i m σ H →
  (J.stop i H ∧ D.nx σ H) ∨ (J.go i H ∧ ∃ N : St → Hp → Prop, (∀ σ' H', N σ' H' → ∃ m', m' < m ∧ W (i + 1) m' σ' H') ∧ ∀ x H', J.yld i H x H' → g x σ H' fun σ2 H2 => tb { D with nx := N, ct := N, bk := D.nx } σ2 H2)
def pinsAt (fp : List Addr) (h : Heap) : List (Addr × Obj) := fp.filterMap fun b => (h.get? b).map fun o => (b, o)
theorem mem_pinsAt {fp : List Addr} {h : Heap} {b : Addr} {o : Obj} (hb : b ∈ fp) (e : h.get? b = some o) : (b, o) ∈ pinsAt fp h := List.mem_filterMap.mpr ⟨b, hb, by rw [e]; rfl⟩
theorem of_pinsAt {fp : List Addr} {h : Heap} {p : Addr × Obj} (hp : p ∈ pinsAt fp h) : p.1 ∈ fp ∧ h.get? p.1 = some p.2 := by
  obtain ⟨b, hb, e⟩ := List.mem_filterMap.mp hp
  cases q : h.get? b with
  | none => rw [q] at e; cases e
  | some o =>
    rw [q] at e
    have e' : (b, o) = p := Option.some.inj e
    subst e'
    exact ⟨hb, q⟩
theorem Inv.pinned {pins : List (Addr × Obj)} {σ : St} {H : Hp} {s : Shared} {fp : List Addr} (I : Inv X pins σ H s) (hf : ∀ b ∈ fp, FpOk X pins H b) (ho : ∀ b ∈ fp, ∃ o, s.heap.get? b = some o ∧ ∀ v, o.data ≠ .cell v) : Inv X (pins ++ pinsAt fp s.heap) σ H s :=
  I.pins_of fun p hp => (List.mem_append.mp hp).elim (fun z => I.pin p (List.mem_append_right _ z)) fun z => by
    obtain ⟨hb, e⟩ := of_pinsAt z
    obtain ⟨f0, f1, f2, _⟩ := hf p.1 hb
    obtain ⟨o, e', d⟩ := ho p.1 hb
    rw [e] at e'; cases e'
    exact ⟨e, f0, f1, f2, d⟩
theorem Inv.unpinned {pins pl : List (Addr × Obj)} {σ : St} {H : Hp} {s : Shared} (I : Inv X (pins ++ pl) σ H s) : Inv X pins σ H s := I.pins_of fun p hp => I.pin p (List.mem_append_right _ (List.mem_append_left _ hp))
theorem ps_for {iter : Expr} {body : List Stmt} {wi : TI} {g : TG} {tb : TS} {pos : Pos} (hp : PassesOwn (model X.prog X.w) X.A X.env X.xe) (hc : X.calm = true) (hi : PI X tg iter wi) (hg : PG X tg g) (hb : PSs X body tb)
    (hs : ∀ x, foldedSetIterable iter X.env x = pure x := by intro _; rfl) : PS X (.For tg iter body [] pos) (tFor wi g tb) := by
  intro pins s σ H D I h
  refine wpAny_For (thn (hi pins s σ H _ I h) fun v s1 h1 => thn h1 fun itv s2 h2 => ?_) hs
  obtain ⟨it, fp, tn, J, H2, e, I2, T, st2, f2, W, ⟨m0, w0⟩, turn⟩ := h2
  subst e
  have stat : ∀ {H' : Hp}, (∀ b ∈ fp, H' b = none) → ∀ b ∈ fp, FpOk X pins H' b := fun hn b hb => ⟨hn b hb, (f2 b hb).2⟩
  refine codeAny_forLoop_any (fun n s' => ∃ i σ' H', Inv X pins σ' H' s' ∧ tn i s'.heap ∧ (∀ b ∈ fp, H' b = none) ∧ W i n σ' H') ?_ m0 ⟨0, σ, H2, I2, st2, fun b hb => (f2 b hb).1, w0⟩
  rintro n s3 ⟨i, σ3, H3, I3, st3, fr3, w3⟩
  rcases turn i n σ3 H3 w3 with ⟨stop, qn⟩ | ⟨go, N, hN, step⟩
  · refine wpAny_passesOwn hp (thn (T.done X rfl rfl rfl hc i pins s3 σ3 H3 X.xe I3 (stat fr3) st3 stop) fun r s4 ⟨hr, I4⟩ => ?_)
    subst hr
    exact wpAny_execs_nil ⟨σ3, H3, I4, qn⟩
  · refine wpAny_passesOwn hp (thn (T.item X rfl rfl rfl hc i pins s3 σ3 H3 X.xe I3 (stat fr3) st3 go) fun r s4 ⟨u, hr, h4⟩ => ?_)
    subst hr
    refine wpAny_passesOwn hp (thn h4 fun _ s5 ⟨x, H5, I5, r5, y5, st5, fr5⟩ => ?_)
    have I5' := I5.pinned (stat fr5) (T.obj _ _ st5)
    refine wpAny_passesOwn hp (thn (hg _ s5 σ3 H5 x u _ I5' r5 (step x H5 y5)) fun _ s6 ⟨σ6, H6, I6, q6⟩ => ?_)
    refine wpAny_passesOwn hp (thn (hb _ s6 σ6 H6 _ I6 q6) fun f s7 q7 => ?_)
    have again : ∀ {σ7 : St} {H7 : Hp}, Inv X (pins ++ pinsAt fp s5.heap) σ7 H7 s7 → N σ7 H7 → ∃ m, m < n ∧ ∃ i σ' H', Inv X pins σ' H' s7 ∧ tn i s7.heap ∧ (∀ b ∈ fp, H' b = none) ∧ W i m σ' H' := fun {σ7 H7} I7 n7 => by
      obtain ⟨m', hm, w7⟩ := hN σ7 H7 n7
      refine ⟨m', hm, i + 1, σ7, H7, I7.unpinned, T.keep _ _ _ st5 fun b hb o e => (I7.pin (b, o) (List.mem_append_right _ (List.mem_append_right _ (mem_pinsAt hb e)))).1, fun b hb => ?_, w7⟩
      obtain ⟨o, e, d⟩ := T.obj _ _ st5 b hb
      exact (I7.pin (b, o) (List.mem_append_right _ (List.mem_append_right _ (mem_pinsAt hb e)))).2.1
    cases f with
    | next => obtain ⟨σ7, H7, I7, n7⟩ := q7; exact again I7 n7
    | cont => obtain ⟨σ7, H7, I7, n7⟩ := q7; exact again I7 n7
    | brk => obtain ⟨σ7, H7, I7, q7⟩ := q7; exact ⟨σ7, H7, I7.unpinned, q7⟩
    | ret v => obtain ⟨x7, σ7, H7, I7, r7, q7⟩ := q7; exact ⟨x7, σ7, H7, I7.unpinned, r7, q7⟩
end
theorem for_list {K : PySem.W.Frag} {a : Addr} {xs : List V} {g : TG} {tb : TS} {D : Ends} {σ : St} {H : Hp} (Pv : Nat → St → Hp → Prop) (h0 : Pv 0 σ H) (hl : ∀ i σ H, i ≤ xs.length → Pv i σ H → SqL K H a xs)
    (hs : ∀ i x σ H, xs[i]? = some x → Pv i σ H → g x σ H fun σ2 H2 => tb { D with nx := Pv (i + 1), ct := Pv (i + 1), bk := D.nx } σ2 H2) (hd : ∀ σ H, Pv xs.length σ H → D.nx σ H) :
    ∃ W : Nat → Nat → St → Hp → Prop, (∃ m, W 0 m σ H) ∧ ∀ i m σ H, W i m σ H →
      ((Itl K a).stop i H ∧ D.nx σ H) ∨ ((Itl K a).go i H ∧ ∃ N : St → Hp → Prop, (∀ σ' H', N σ' H' → ∃ m', m' < m ∧ W (i + 1) m' σ' H') ∧ ∀ x H', (Itl K a).yld i H x H' → g x σ H' fun σ2 H2 => tb { D with nx := N, ct := N, bk := D.nx } σ2 H2) := by
  refine ⟨fun i m σ H => m = xs.length - i ∧ i ≤ xs.length ∧ Pv i σ H, ⟨xs.length, by simp, Nat.zero_le _, h0⟩, ?_⟩
  rintro i m σ H ⟨rfl, hi, p⟩
  have q := hl i σ H hi p
  by_cases hlt : i < xs.length
  · refine .inr ⟨⟨xs, xs[i], q, by simp [hlt]⟩, Pv (i + 1), fun σ' H' p' => ⟨xs.length - (i + 1), by omega, rfl, hlt, p'⟩, fun x H' y => ?_⟩
    obtain ⟨e, y⟩ := y
    subst e
    exact hs i x σ _ (y xs q) p
  · have e : i = xs.length := by omega
    subst e
    exact .inl ⟨⟨xs, q, Nat.le_refl _⟩, hd σ H p⟩
theorem for_range {lo : Int} {n : Nat} {g : TG} {tb : TS} {D : Ends} {σ : St} {H : Hp} (Pv : Nat → St → Hp → Prop) (h0 : Pv 0 σ H)
    (hs : ∀ i σ H, i < n → Pv i σ H → g (.int (lo + i)) σ H fun σ2 H2 => tb { D with nx := Pv (i + 1), ct := Pv (i + 1), bk := D.nx } σ2 H2) (hd : ∀ σ H, Pv n σ H → D.nx σ H) :
    ∃ W : Nat → Nat → St → Hp → Prop, (∃ m, W 0 m σ H) ∧ ∀ i m σ H, W i m σ H →
      ((Itr lo n).stop i H ∧ D.nx σ H) ∨ ((Itr lo n).go i H ∧ ∃ N : St → Hp → Prop, (∀ σ' H', N σ' H' → ∃ m', m' < m ∧ W (i + 1) m' σ' H') ∧ ∀ x H', (Itr lo n).yld i H x H' → g x σ H' fun σ2 H2 => tb { D with nx := N, ct := N, bk := D.nx } σ2 H2) := by
  refine ⟨fun i m σ H => m = n - i ∧ i ≤ n ∧ Pv i σ H, ⟨n, by simp, Nat.zero_le _, h0⟩, ?_⟩
  rintro i m σ H ⟨rfl, hi, p⟩
  by_cases hlt : i < n
  · refine .inr ⟨hlt, Pv (i + 1), fun σ' H' p' => ⟨n - (i + 1), by omega, rfl, hlt, p'⟩, fun x H' y => ?_⟩
    obtain ⟨e, y⟩ := y
    subst e y
    exact hs i σ _ hlt p
  · have e : i = n := by omega
    subst e
    exact .inl ⟨Nat.le_refl _, hd σ H p⟩
theorem while_by {c : TT} {tb : TS} {D : Ends} {σ : St} {H : Hp} (Pv : St → Hp → Prop) (μ : St → Hp → Nat) (h0 : Pv σ H)
    (hs : ∀ σ H, Pv σ H → c σ H fun b H1 => if b = true then tb { D with nx := fun σ' H' => Pv σ' H' ∧ μ σ' H' < μ σ H, ct := fun σ' H' => Pv σ' H' ∧ μ σ' H' < μ σ H, bk := D.nx } σ H1 else D.nx σ H1)
    (mono : ∀ σ H Q Q', (∀ b H1, Q b H1 → Q' b H1) → c σ H Q → c σ H Q') : tWhile c tb D σ H := by
  refine ⟨fun m σ H => m = μ σ H ∧ Pv σ H, ⟨_, rfl, h0⟩, ?_⟩
  rintro m σ H ⟨rfl, p⟩
  refine mono σ H _ _ (fun b H1 q => ?_) (hs σ H p)
  cases b with
  | true => exact ⟨_, fun σ' H' ⟨p', l⟩ => ⟨_, l, rfl, p'⟩, q⟩
  | false => exact q
end L2
namespace L2
open PySem PySem.Spec PyProof.Rows
abbrev R2 := V → V → Hp → VK → Prop
def OpR (X : Cx) (f : Value → Value → Sem Value) (r : R2) : Prop :=
  ∀ (pins : List (Addr × Obj)) (s : Shared) (σ : St) (H : Hp) (x y : V) (v u : Value) (Q : VK), Inv X pins σ H s → RelV x v → RelV y u → r x y H Q →
    wpAny (model X.prog X.w) X.A (f v u) (EP X pins σ Q) X.xe s
def UnR (X : Cx) (f : Value → Sem Value) (r : V → Hp → VK → Prop) : Prop :=
  ∀ (pins : List (Addr × Obj)) (s : Shared) (σ : St) (H : Hp) (x : V) (v : Value) (Q : VK), Inv X pins σ H s → RelV x v → r x H Q →
    wpAny (model X.prog X.w) X.A (f v) (EP X pins σ Q) X.xe s
def CallR (X : Cx) (f : Value) (r : List V → Hp → VK → Prop) : Prop :=
  ∀ (pins : List (Addr × Obj)) (s : Shared) (σ : St) (H : Hp) (xs : List V) (us : List Value) (Q : VK), Inv X pins σ H s → Vals xs us → r xs H Q →
    wpAny (model X.prog X.w) X.A (call f us) (EP X pins σ Q) X.xe s
def tOp (r : R2) (ta tb : TE) : TE := fun σ H Q => ta σ H fun x H1 => tb σ H1 fun y H2 => r x y H2 Q
def tUn (r : V → Hp → VK → Prop) (ta : TE) : TE := fun σ H Q => ta σ H fun x H1 => r x H1 Q
def rI (C : Int → Int → Prop) (g : Int → Int → V) : R2 := fun x y H Q => ∃ i j, x = .int i ∧ y = .int j ∧ C i j ∧ Q (g i j) H
def rI0 (g : Int → Int → V) : R2 := fun x y H Q => ∃ i j, x = .int i ∧ y = .int j ∧ Q (g i j) H
def rU (g : Int → V) : V → Hp → VK → Prop := fun x H Q => ∃ i, x = .int i ∧ Q (g i) H
section
variable {X : Cx} {a b c : Expr} {ta tb tc : TE} {pos : Pos}
theorem binT (ha : PE X a ta) (hb : PE X b tb) {pins : List (Addr × Obj)} {s : Shared} {σ : St} {H : Hp} {R : V → V → Hp → Prop} (I : Inv X pins σ H s)
    (h : ta σ H fun x H1 => tb σ H1 fun y H2 => R x y H2) {Q : Value → Shared → Prop} {f : Value → Value → Sem Value}
    (hf : ∀ v u s2 x y H2, Inv X pins σ H2 s2 → RelV x v → RelV y u → R x y H2 → wpAny (model X.prog X.w) X.A (f v u) Q X.xe s2) :
    wpAny (model X.prog X.w) X.A (eval a X.env) (fun v s₁ => wpAny (model X.prog X.w) X.A (eval b X.env) (fun u s₂ => wpAny (model X.prog X.w) X.A (f v u) Q X.xe s₂) X.xe s₁) X.xe s := by
  refine thn (ha pins s σ H _ I h) fun v s1 ⟨x, H1, I1, r1, q1⟩ => ?_
  refine thn (hb pins s1 σ H1 _ I1 q1) fun u s2 ⟨y, H2, I2, r2, q2⟩ => ?_
  exact hf v u s2 x y H2 I2 r1 r2 q2
theorem pe_op {op : Operator} {r : R2} (ho : OpR X (binaryOp op) r) (ha : PE X a ta) (hb : PE X b tb) : PE X (.BinOp a op b pos) (tOp r ta tb) := by
  intro pins s σ H Q I h
  exact wpAny_BinOp (binT ha hb I h fun v u s2 x y H2 I2 rx ry q => ho pins s2 σ H2 x y v u Q I2 rx ry q)
theorem pe_un {op : UnaryOp} {r : V → Hp → VK → Prop} (ho : UnR X (unaryOp op) r) (ha : PE X a ta) : PE X (.UnaryOp op a pos) (tUn r ta) := by
  intro pins s σ H Q I h
  exact UnaryOp_ (thn (ha pins s σ H _ I h) fun v s1 ⟨x, H1, I1, r1, q1⟩ => ho pins s1 σ H1 x v Q I1 r1 q1)
theorem opI {f : Value → Value → Sem Value} {C : Int → Int → Prop} {g : Int → Int → Int}
    (rule : ∀ (i j : Int) (t u : Tok) (s : Shared) (Q : Value → Shared → Prop) (E : Value → Shared → Prop), C i j → Q (.int (g i j) s.toks) { s with toks := s.toks + 1 } → wpAny (model X.prog X.w) X.A (f (.int i t) (.int j u)) Q E s) :
    OpR X f (rI C fun i j => .int (g i j)) := by
  intro pins s σ H x y v u Q I rx ry h
  obtain ⟨i, j, rfl, rfl, hc, q⟩ := h
  obtain ⟨t, rfl⟩ := rx
  obtain ⟨t', rfl⟩ := ry
  exact rule i j t t' s _ _ hc ⟨.int (g i j), H, I.tok _, ⟨_, rfl⟩, q⟩
theorem opI0 {f : Value → Value → Sem Value} {g : Int → Int → Int}
    (rule : ∀ (i j : Int) (t u : Tok) (s : Shared) (Q : Value → Shared → Prop) (E : Value → Shared → Prop), Q (.int (g i j) s.toks) { s with toks := s.toks + 1 } → wpAny (model X.prog X.w) X.A (f (.int i t) (.int j u)) Q E s) :
    OpR X f (rI0 fun i j => .int (g i j)) := by
  intro pins s σ H x y v u Q I rx ry h
  obtain ⟨i, j, rfl, rfl, q⟩ := h
  obtain ⟨t, rfl⟩ := rx
  obtain ⟨t', rfl⟩ := ry
  exact rule i j t t' s _ _ ⟨.int (g i j), H, I.tok _, ⟨_, rfl⟩, q⟩
theorem opB0 {f : Value → Value → Sem Value} {g : Int → Int → Bool}
    (rule : ∀ (i j : Int) (t u : Tok) (s : Shared) (Q : Value → Shared → Prop) (E : Value → Shared → Prop), Q (.bool (g i j)) s → wpAny (model X.prog X.w) X.A (f (.int i t) (.int j u)) Q E s) :
    OpR X f (rI0 fun i j => .bl (g i j)) := by
  intro pins s σ H x y v u Q I rx ry h
  obtain ⟨i, j, rfl, rfl, q⟩ := h
  obtain ⟨t, rfl⟩ := rx
  obtain ⟨t', rfl⟩ := ry
  exact rule i j t t' s _ _ ⟨.bl (g i j), H, I, rfl, q⟩
def CMul (i j : Int) : Prop := (-(2 ^ 64) < i ∧ i < 2 ^ 64) ∨ (-(2 ^ 64) < j ∧ j < 2 ^ 64)
theorem CMul.ok {i j : Int} (h : CMul i j) : IntMulOk i j := by
  rcases h with ⟨h1, h2⟩ | ⟨h1, h2⟩
  · exact .of_left (intBits_le_64 h1 h2)
  · exact .of_right (intBits_le_64 h1 h2)
theorem op_add : OpR X (binaryOp .Add) (rI0 fun i j => .int (i + j)) := opI0 fun _ _ _ _ _ _ _ q => add_int q
theorem op_sub : OpR X (binaryOp .Sub) (rI0 fun i j => .int (i - j)) := opI0 fun _ _ _ _ _ _ _ q => sub_int q
theorem op_mul : OpR X (binaryOp .Mult) (rI CMul fun i j => .int (i * j)) := opI fun _ _ _ _ _ _ _ hc q => mul_int q hc.ok
theorem op_mod : OpR X (binaryOp .Mod) (rI (fun _ j => 0 < j) fun i j => .int (i % j)) := opI fun i j _ _ _ _ _ hc q => by
  have h1 : (0 : Int) < j := hc
  exact mod_int' (by omega) (by rw [Int.fmod_eq_emod_of_nonneg i (by omega)]; exact q)
theorem unI {f : Value → Sem Value} {g : Int → Int}
    (rule : ∀ (i : Int) (t : Tok) (s : Shared) (Q : Value → Shared → Prop) (E : Value → Shared → Prop), Q (.int (g i) s.toks) { s with toks := s.toks + 1 } → wpAny (model X.prog X.w) X.A (f (.int i t)) Q E s) :
    UnR X f (rU fun i => .int (g i)) := by
  intro pins s σ H x v Q I rx h
  obtain ⟨i, rfl, q⟩ := h
  obtain ⟨t, rfl⟩ := rx
  exact rule i t s _ _ ⟨.int (g i), H, I.tok _, ⟨_, rfl⟩, q⟩
theorem un_neg : UnR X (unaryOp .USub) (rU fun i => .int (-i)) := unI fun _ _ _ _ _ q => neg_int q
end
def scal : V → V → Bool
  | .non, .non => true | .non, .int _ => true | .int _, .non => true | .non, .bl _ => true | .bl _, .non => true | .non, .str _ => true | .str _, .non => true
  | .int _, .int _ => true | .bl _, .bl _ => true | .str _, .str _ => true | .byt _, .byt _ => true
  | .int _, .str _ => true | .str _, .int _ => true | .bl _, .str _ => true | .str _, .bl _ => true
  | _, _ => false
def rEq : R2 := fun x y H Q => scal x y = true ∧ Q (.bl (decide (x = y))) H
def rNe : R2 := fun x y H Q => scal x y = true ∧ Q (.bl (!decide (x = y))) H
theorem dec_int {i j : Int} : decide (V.int i = V.int j) = (i == j) := by
  rw [Bool.eq_iff_iff]
  simp
theorem dec_bl {i j : Bool} : decide (V.bl i = V.bl j) = (i == j) := by
  rw [Bool.eq_iff_iff]
  simp
theorem dec_str {i j : Str} : decide (V.str i = V.str j) = (i == j) := by
  rw [Bool.eq_iff_iff]
  simp
theorem dec_byt {i j : Array UInt8} : decide (V.byt i = V.byt j) = (i.toList == j.toList) := by
  rw [Bool.eq_iff_iff]
  cases i
  cases j
  simp
section
variable {X : Cx} {a b c : Expr} {ta tb tc : TE} {pos : Pos}
theorem fin_bl {pins : List (Addr × Obj)} {σ : St} {H : Hp} {s : Shared} {Q : VK} {k k' : Bool} (I : Inv X pins σ H s) (q : Q (.bl k) H) (e : k = k') : EP X pins σ Q (.bool k') s := by
  subst e
  exact ⟨.bl k, H, I, rfl, q⟩
theorem op_eq : OpR X (compareOp .Eq) rEq := by
  intro pins s σ H x y v u Q I rx ry h
  obtain ⟨hs, q⟩ := h
  cases x with
  | non =>
    cases rx
    cases y with
    | non => cases ry; exact PySem.EqNone.eq_none_none (fin_bl I q (by simp))
    | bl j => cases ry; exact PySem.EqNone.eq_none_bool (fin_bl I q (by simp))
    | int j => obtain ⟨t', rfl⟩ := ry; exact PySem.EqNone.eq_none_int (fin_bl I q (by simp))
    | str j => obtain ⟨t', rfl⟩ := ry; exact PySem.EqNone.eq_none_str (fin_bl I q (by simp))
    | _ => exact absurd (show false = true from hs) Bool.false_ne_true
  | bl i =>
    cases rx
    cases y with
    | non => cases ry; exact PySem.EqNone.eq_bool_none (fin_bl I q (by simp))
    | bl j => cases ry; exact eq_bool (fin_bl I q dec_bl)
    | str j => obtain ⟨t', rfl⟩ := ry; exact PySem.EqMixed.eq_bool_str (fin_bl I q (by simp))
    | _ => exact absurd (show false = true from hs) Bool.false_ne_true
  | int i =>
    obtain ⟨t, rfl⟩ := rx
    cases y with
    | non => cases ry; exact PySem.EqNone.eq_int_none (fin_bl I q (by simp))
    | int j => obtain ⟨t', rfl⟩ := ry; exact eq_int (fin_bl I q dec_int)
    | str j => obtain ⟨t', rfl⟩ := ry; exact PySem.EqMixed.eq_int_str (fin_bl I q (by simp))
    | _ => exact absurd (show false = true from hs) Bool.false_ne_true
  | str i =>
    obtain ⟨t, rfl⟩ := rx
    cases y with
    | non => cases ry; exact PySem.EqNone.eq_str_none (fin_bl I q (by simp))
    | bl j => cases ry; exact PySem.EqMixed.eq_str_bool (fin_bl I q (by simp))
    | int j => obtain ⟨t', rfl⟩ := ry; exact PySem.EqMixed.eq_str_int (fin_bl I q (by simp))
    | str j => obtain ⟨t', rfl⟩ := ry; exact eq_str (fin_bl I q dec_str)
    | _ => exact absurd (show false = true from hs) Bool.false_ne_true
  | byt i =>
    obtain ⟨t, rfl⟩ := rx
    cases y with
    | byt j => obtain ⟨t', rfl⟩ := ry; exact PySem.W.eq_bytes (fin_bl I q dec_byt)
    | _ => exact absurd (show false = true from hs) Bool.false_ne_true
  | _ => cases y <;> exact absurd (show false = true from hs) Bool.false_ne_true
theorem op_ne : OpR X (compareOp .NotEq) rNe := by
  intro pins s σ H x y v u Q I rx ry h
  obtain ⟨hs, q⟩ := h
  cases x with
  | non =>
    cases rx
    cases y with
    | non => cases ry; exact PySem.EqNone.ne_none_none (fin_bl I q (by simp))
    | bl j => cases ry; exact PySem.EqNone.ne_none_bool (fin_bl I q (by simp))
    | int j => obtain ⟨t', rfl⟩ := ry; exact PySem.EqNone.ne_none_int (fin_bl I q (by simp))
    | str j => obtain ⟨t', rfl⟩ := ry; exact PySem.EqNone.ne_none_str (fin_bl I q (by simp))
    | _ => exact absurd (show false = true from hs) Bool.false_ne_true
  | bl i =>
    cases rx
    cases y with
    | non => cases ry; exact PySem.EqNone.ne_bool_none (fin_bl I q (by simp))
    | bl j => cases ry; exact ne_bool (fin_bl I q (congrArg not dec_bl))
    | str j => obtain ⟨t', rfl⟩ := ry; exact PySem.EqMixed.ne_bool_str (fin_bl I q (by simp))
    | _ => exact absurd (show false = true from hs) Bool.false_ne_true
  | int i =>
    obtain ⟨t, rfl⟩ := rx
    cases y with
    | non => cases ry; exact PySem.EqNone.ne_int_none (fin_bl I q (by simp))
    | int j => obtain ⟨t', rfl⟩ := ry; exact ne_int (fin_bl I q (congrArg not dec_int))
    | str j => obtain ⟨t', rfl⟩ := ry; exact PySem.EqMixed.ne_int_str (fin_bl I q (by simp))
    | _ => exact absurd (show false = true from hs) Bool.false_ne_true
  | str i =>
    obtain ⟨t, rfl⟩ := rx
    cases y with
    | non => cases ry; exact PySem.EqNone.ne_str_none (fin_bl I q (by simp))
    | bl j => cases ry; exact PySem.EqMixed.ne_str_bool (fin_bl I q (by simp))
    | int j => obtain ⟨t', rfl⟩ := ry; exact PySem.EqMixed.ne_str_int (fin_bl I q (by simp))
    | str j => obtain ⟨t', rfl⟩ := ry; exact ne_str (fin_bl I q (congrArg not dec_str))
    | _ => exact absurd (show false = true from hs) Bool.false_ne_true
  | byt i =>
    obtain ⟨t, rfl⟩ := rx
    cases y with
    | byt j => obtain ⟨t', rfl⟩ := ry; exact PySem.W.ne_bytes (fin_bl I q (congrArg not dec_byt))
    | _ => exact absurd (show false = true from hs) Bool.false_ne_true
  | _ => cases y <;> exact absurd (show false = true from hs) Bool.false_ne_true
theorem op_lt : OpR X (compareOp .Lt) (rI0 fun i j => .bl (decide (i < j))) := opB0 fun _ _ _ _ _ _ _ q => lt_int q
theorem op_le : OpR X (compareOp .LtE) (rI0 fun i j => .bl (decide (i ≤ j))) := opB0 fun _ _ _ _ _ _ _ q => le_int q
theorem op_gt : OpR X (compareOp .Gt) (rI0 fun i j => .bl (decide (j < i))) := opB0 fun _ _ _ _ _ _ _ q => gt_int q
theorem op_ge : OpR X (compareOp .GtE) (rI0 fun i j => .bl (decide (j ≤ i))) := opB0 fun _ _ _ _ _ _ _ q => ge_int q
theorem op_isN : OpR X (compareOp .Is) (fun x y H Q => y = .non ∧ Q (.bl (decide (x = .non))) H) := by
  intro pins s σ H x y v u Q I rx ry h
  obtain ⟨rfl, q⟩ := h
  cases ry
  refine is_none_gen (fin_bl I q ?_)
  cases x <;> first
    | (cases rx; rfl)
    | (obtain ⟨t, rfl⟩ := rx; rfl)
theorem op_notN : OpR X (compareOp .IsNot) (fun x y H Q => y = .non ∧ Q (.bl (!decide (x = .non))) H) := by
  intro pins s σ H x y v u Q I rx ry h
  obtain ⟨rfl, q⟩ := h
  cases ry
  refine isnot_none_gen (fin_bl I q ?_)
  cases x <;> first
    | (cases rx; rfl)
    | (obtain ⟨t, rfl⟩ := rx; rfl)
theorem nomark (b : Expr) {op : CmpOp} (h : op ≠ .In := by decide) (h2 : op ≠ .NotIn := by decide) : behindInMarks op b = false := by
  have e1 : (op == CmpOp.In) = false := by cases op <;> first | rfl | exact absurd rfl h
  have e2 : (op == CmpOp.NotIn) = false := by cases op <;> first | rfl | exact absurd rfl h2
  cases b <;> simp [behindInMarks, e1, e2]
theorem pe_cmpR {op : CmpOp} {r : R2} (ho : OpR X (compareOp op) r) (ha : PE X a ta) (hb : PE X b tb) (hm : behindInMarks op b = false) : PE X (.Compare a [op] [b] pos) (tOp r ta tb) := by
  intro pins s σ H Q I h
  exact wpAny_Compare1 (binT ha hb I h fun v u s2 x y H2 I2 rx ry q => ho pins s2 σ H2 x y v u Q I2 rx ry q) hm
def tTest (t : TE) : TT := fun σ H Q => t σ H fun x H' => ∃ k, x = .bl k ∧ Q k H'
theorem pt_cmpR {op : CmpOp} {r : R2} (ho : OpR X (compareOp op) r) (ha : PE X a ta) (hb : PE X b tb) (hm : behindInMarks op b = false) : PT X (.Compare a [op] [b] pos) (tTest (tOp r ta tb)) := by
  intro pins s σ H Q I h
  refine wpAny_isTrue_Compare1 (thn (ha pins s σ H _ I h) fun v s1 ⟨x, H1, I1, r1, q1⟩ => thn (hb pins s1 σ H1 _ I1 q1) fun u s2 ⟨y, H2, I2, r2, q2⟩ =>
    thn (ho pins s2 σ H2 x y v u _ I2 r1 r2 q2) fun c s3 ⟨z, H3, I3, r3, k, e, q3⟩ => ?_) hm
  subst e
  cases r3
  exact wpAny_truthy_bool ⟨H3, I3, q3⟩
def tChain (r r' : R2) (ta tb tc : TE) : TE := fun σ H Q => ta σ H fun x H1 => tb σ H1 fun y H2 => r x y H2 fun z H3 => ∃ k, z = .bl k ∧
  (if k = true then tc σ H3 fun w' H4 => r' y w' H4 Q else Q (.bl false) H3)
theorem pe_chain {op op' : CmpOp} {r r' : R2} (ho : OpR X (compareOp op) r) (ho' : OpR X (compareOp op') r') (ha : PE X a ta) (hb : PE X b tb) (hc : PE X c tc)
    (hm : lastMarks [op, op'] [b, c] = false := by with_unfolding_all rfl) : PE X (.Compare a [op, op'] [b, c] pos) (tChain r r' ta tb tc) := by
  intro pins s σ H Q I h
  refine Compare_chain (thn (ha pins s σ H _ I h) fun v s1 ⟨x, H1, I1, r1, q1⟩ => chain_link (thn (hb pins s1 σ H1 _ I1 q1) fun u s2 ⟨y, H2, I2, r2, q2⟩ =>
    thn (ho pins s2 σ H2 x y v u _ I2 r1 r2 q2) fun d s3 ⟨z, H3, I3, r3, k, e, q3⟩ => ?_)) hm
  subst e
  cases r3
  refine wpAny_truthy_bool ?_
  cases k with
  | false => exact ite_ff ⟨.bl false, H3, I3, rfl, q3⟩
  | true => exact ite_tt (chain_last (thn (hc pins s3 σ H3 _ I3 q3) fun w' s4 ⟨z', H4, I4, r4, q4⟩ => ho' pins s4 σ H4 y z' u w' Q I4 r2 r4 q4))
theorem pt_chain {op op' : CmpOp} {r r' : R2} (ho : OpR X (compareOp op) r) (ho' : OpR X (compareOp op') r') (ha : PE X a ta) (hb : PE X b tb) (hc : PE X c tc)
    (hm : lastMarks [op, op'] [b, c] = false := by with_unfolding_all rfl) : PT X (.Compare a [op, op'] [b, c] pos) (tTest (tChain r r' ta tb tc)) := by
  intro pins s σ H Q I h
  refine isTrue_chain (thn (ha pins s σ H _ I h) fun v s1 ⟨x, H1, I1, r1, q1⟩ => test_link (thn (hb pins s1 σ H1 _ I1 q1) fun u s2 ⟨y, H2, I2, r2, q2⟩ =>
    thn (ho pins s2 σ H2 x y v u _ I2 r1 r2 q2) fun d s3 ⟨z, H3, I3, r3, k, e, q3⟩ => ?_)) hm
  subst e
  cases r3
  refine wpAny_truthy_bool ?_
  cases k with
  | false =>
    obtain ⟨k', e', q'⟩ := q3
    cases e'
    exact ite_ff ⟨H3, I3, q'⟩
  | true =>
    refine ite_tt (test_last (thn (hc pins s3 σ H3 _ I3 q3) fun w' s4 ⟨z', H4, I4, r4, q4⟩ => thn (ho' pins s4 σ H4 y z' u w' _ I4 r2 r4 q4) fun d' s5 ⟨z2, H5, I5, r5, k2, e2, q5⟩ => ?_))
    subst e2
    cases r5
    exact wpAny_truthy_bool ⟨H5, I5, q5⟩
theorem line63 : (sizeLine : Nat) < 2 ^ 63 := by rw [sizeLine_eq]; decide
theorem vals1 {x : V} {us : List Value} (r : Vals [x] us) : ∃ u, us = [u] ∧ RelV x u := by
  cases r with
  | cons r1 r2 => cases r2; exact ⟨_, rfl, r1⟩
theorem vals2 {x y : V} {us : List Value} (r : Vals [x, y] us) : ∃ u w', us = [u, w'] ∧ RelV x u ∧ RelV y w' := by
  cases r with
  | cons r1 r2 =>
    cases r2 with
    | cons r3 r4 => cases r4; exact ⟨_, _, rfl, r1, r3⟩
theorem call_abs : CallR X (.builtin "abs") (fun xs H Q => ∃ i, xs = [.int i] ∧ Q (.int (if i < 0 then -i else i)) H) := by
  intro pins s σ H xs us Q I r h
  obtain ⟨i, rfl, q⟩ := h
  obtain ⟨u, rfl, t, rfl⟩ := vals1 r
  exact call_abs_int fun u tk => ⟨.int (if i < 0 then -i else i), H, I.tok _, ⟨_, rfl⟩, q⟩
theorem call_max2 (hc : X.calm = true) : CallR X (.builtin "max") (fun xs H Q => ∃ i j, xs = [.int i, .int j] ∧ Q (.int (if j > i then j else i)) H) := by
  intro pins s σ H xs us Q I r h
  obtain ⟨i, j, rfl, q⟩ := h
  obtain ⟨u, w', rfl, ⟨t, rfl⟩, ⟨t', rfl⟩⟩ := vals2 r
  refine max_two_ints (I.ok.hd hc) fun h' tk k => ⟨_, H, I.kept k, ?_, q⟩
  by_cases hj : j > i
  · rw [if_pos hj, if_pos hj]; exact ⟨_, rfl⟩
  · rw [if_neg hj, if_neg hj]; exact ⟨_, rfl⟩
theorem call_min2 (hc : X.calm = true) : CallR X (.builtin "min") (fun xs H Q => ∃ i j, xs = [.int i, .int j] ∧ Q (.int (if j < i then j else i)) H) := by
  intro pins s σ H xs us Q I r h
  obtain ⟨i, j, rfl, q⟩ := h
  obtain ⟨u, w', rfl, ⟨t, rfl⟩, ⟨t', rfl⟩⟩ := vals2 r
  refine min_two_ints (I.ok.hd hc) fun h' tk k => ⟨_, H, I.kept k, ?_, q⟩
  by_cases hj : j < i
  · rw [if_pos hj, if_pos hj]; exact ⟨_, rfl⟩
  · rw [if_neg hj, if_neg hj]; exact ⟨_, rfl⟩
theorem call_ord : CallR X (.builtin "ord") (fun xs H Q => ∃ x, xs = [.str x] ∧ x.length = 1 ∧ Q (.int (x.cps.getD 0 0 : Nat)) H) := by
  intro pins s σ H xs us Q I r h
  obtain ⟨x, rfl, hz, q⟩ := h
  obtain ⟨u, rfl, t, rfl⟩ := vals1 r
  exact ord_of_one hz ⟨.int _, H, I.tok _, ⟨_, rfl⟩, q⟩
end
end L2
namespace L2
open PySem PySem.Spec PyProof.Rows
structure ObjM (h : Heap) (x dx C : Addr) (mA : Str → Option Value) : Prop where
  obj : h.get? x = some (PySem.W.instObj C dx)
  ns : h.Ns1 dx mA
  ne : dx ≠ x
theorem lookIn_ns {h : Heap} {dx : Addr} {mA : Str → Option Value} (n : h.Ns1 dx mA) : ∃ od, h.get? dx = some od ∧ ∀ name, PySem.W.lookIn name od = some (mA name) := by
  obtain ⟨o, es, ep, ho, hd, hk, _, hm⟩ := n
  refine ⟨o, ho, fun name => ?_⟩
  have e := hm name
  unfold nsFind findBy at e
  rw [← Array.find?_toList] at e
  unfold PySem.W.lookIn
  rw [hd]
  dsimp only
  split
  · rename_i y q
    rw [q] at e
    exact congrArg some e
  · rename_i q
    rw [q] at e
    have a : es.toList.any (·.refKey) = false := by
      rw [List.any_eq_false]
      intro y hy
      obtain ⟨z, t, hkey⟩ := hk y (Array.mem_toList_iff.mp hy)
      simp [DictEntry.refKey, hkey]
    have a' : ¬ es.toList.any (·.refKey) = true := by rw [a]; exact Bool.false_ne_true
    rw [if_neg a']
    exact congrArg some e
theorem ObjM.look {h : Heap} {x dx C : Addr} {mA : Str → Option Value} (I : ObjM h x dx C mA) : ∃ od, PySem.W.InstAt h x (PySem.W.instObj C dx) C (some od) ∧ ∀ name, PySem.W.lookIn name od = some (mA name) :=
  let ⟨od, ho, hl⟩ := lookIn_ns I.ns
  ⟨od, ⟨I.obj, rfl, rfl, ho⟩, hl⟩
section
variable {prog : Program} {w : World} {A : Around} {E : Value → Shared → Prop} {s : Shared} {K : PySem.W.Frag} {x dx C f : Addr} {mA : Str → Option Value} {name : Str} {v : Value}
theorem get_map {expr : Bool} {Q : Value → Shared → Prop} (X : K.In s.heap) (I : ObjM s.heap x dx C mA) (hg : PySem.W.plainGet K C name = true) (hh : PySem.W.hasDictIn K C = true)
    (ha : PySem.W.findIn K (.ref C) name = some none) (hv : mA name = some v) (hv' : PySem.W.handedIn v = true) (h : Q v { s with toks := s.toks + 1 }) :
    wpAny (model prog w) A (getAttr (.ref x) name expr) Q E s := by
  obtain ⟨od, J, hl⟩ := I.look
  exact PySem.W.get_value X J (PySem.W.plainGet_of hg).1 (PySem.W.findObj_own hh ha rfl (by rw [hl, hv])) hv' h
theorem get_meth {pl : Sem Bool} {Q : Value × List Value → Shared → Prop} (X : K.In s.heap) (I : ObjM s.heap x dx C mA) (hg : PySem.W.plainGet K C name = true)
    (hf : PySem.W.findIn K (.ref C) name = some (some (.ref f))) (ht : PySem.W.isFn K (.ref f) = true) (hv : mA name = none) (h : Q (.ref f, [.ref x]) s) :
    wpAny (model prog w) A (getMethod (.ref x) name pl) Q E s := by
  obtain ⟨od, J, hl⟩ := I.look
  exact PySem.W.method_fn X J (PySem.W.plainGet_of hg).1 (PySem.W.plainGet_of hg).2 hf (beq_iff_eq.mp ht) (by show (PySem.W.lookIn name od).map (·.isSome) = some false; rw [hl, hv]; rfl) h
theorem set_map {ns : List Str} {Q : Unit → Shared → Prop} (X : K.In s.heap) (I : ObjM s.heap x dx C mA)
    (hs : PySem.W.findIn K (.ref C) "__setattr__" = some (some (.builtin "object.__setattr__"))) (hp : PySem.W.plainOver K C = true) (ht : PySem.W.takerIn K C name = some none) (hh : PySem.W.hasDictIn K C = true)
    (hw : PySem.Within mA ns) (hsz : ns.length ≤ sizeLine)
    (h : ∀ h', ObjM h' x dx C (fun y => if y = name then some v else mA y) → Heap.SameBut dx s.heap h' → Q () { s with heap := h', toks := s.toks + 2 }) :
    wpAny (model prog w) A (setAttr (.ref x) name v) Q E s := by
  obtain ⟨od, J, hl⟩ := I.look
  refine PySem.W.set_plain X J hs (PySem.W.osa_open (s := { s with toks := s.toks + 1 }) (r := none) X J hp ht fun b => ?_)
  obtain ⟨cd, hc, hd'⟩ := PySem.W.any_some hh
  have hx : s.heap.get? x = some ⟨.ref C, some dx, .plain, #[]⟩ := I.obj
  refine wpAny_bind (wpAny_pure (wpAny_bind (wpAny_bind (wpAny_loadPart hx (wpAny_bind (PySem.W.Looks.here (s := { s with toks := s.toks + 1 }) (PySem.W.looks_clsIn X hc) ?_))))))
  rw [hd']
  refine wpAny_pure (a := some dx) (wpAny_bind (wpAny_pure (wpAny_bind ?_)))
  refine wpAny_nsSet1 (s := { s with toks := s.toks + 1 }) I.ns fun h' hn2 hs2 => ?_
  obtain ⟨oD, esD, epD, hoD, hdD, hcD⟩ := hn2.count (PySem.Within.cons name v hw)
  refine wpAny_bind (wpAny_lookBehind hoD (by rw [hdD]; exact pastItsLine_dict (Nat.le_trans hcD (by rw [List.length_cons]; omega))) ?_)
  exact wpAny_pure (h _ ⟨(hs2.2 _ (Ne.symm I.ne)).trans I.obj, hn2, I.ne⟩ hs2)
theorem make_map {R : Result → Shared → Prop} {vs : List Value} {kw : List (Str × Value)} (X : K.In s.heap) (hm : PySem.W.makesIn K C = true)
    (hi : PySem.W.findIn K (.ref C) "__init__" = some (some (.ref f))) (hf : PySem.W.typeIn K (.ref f) = some (.type "function"))
    (h : codeAny (model prog w) (A.under (.builtin "type.__call__" ⟨.ref C :: vs, kw⟩)) (.call (.ref f) ⟨.ref (s.heap.objs.size + 1) :: vs, kw⟩) (PySem.W.InitBack (s.heap.objs.size + 1) R)
      { s with heap := (s.heap.push PySem.W.emptyDict).push (PySem.W.instObj C s.heap.objs.size) }) :
    codeAny (model prog w) A (.call (.ref C) ⟨vs, kw⟩) R s := by
  obtain ⟨hh, g, d, t, os⟩ := s
  exact PySem.W.make_core (PySem.W.makes_of X hm) (PySem.W.looks_findIn X hi) (fun self => PySem.W.bind_fn X self hf) (.inl rfl) h
end
def putF (f : Str) (v : V) : List (Str × V) → List (Str × V)
  | [] => [(f, v)]
  | (g, x) :: r => if g = f then (g, v) :: r else (g, x) :: putF f v r
theorem lookup_putF (f g : Str) (v : V) : ∀ fs : List (Str × V), (putF f v fs).lookup g = if g = f then some v else fs.lookup g
  | [] => by
    show List.lookup g [(f, v)] = _
    by_cases h : g = f
    · have hb : (g == f) = true := beq_iff_eq.mpr h
      simp only [List.lookup, hb, if_pos h]
    · have hb : (g == f) = false := beq_eq_false_iff_ne.mpr h
      simp only [List.lookup, hb, if_neg h]
  | (k, x) :: r => by
    have ih := lookup_putF f g v r
    rw [show putF f v ((k, x) :: r) = (if k = f then (k, v) :: r else (k, x) :: putF f v r) from rfl]
    by_cases hk : k = f
    · rw [if_pos hk]
      by_cases h : g = k
      · have hb : (g == k) = true := beq_iff_eq.mpr h
        simp only [List.lookup, hb, if_pos (h.trans hk)]
      · have hb : (g == k) = false := beq_eq_false_iff_ne.mpr h
        simp only [List.lookup, hb, if_neg (fun e : g = f => h (e.trans hk.symm))]
    · rw [if_neg hk]
      by_cases h : g = k
      · have hb : (g == k) = true := beq_iff_eq.mpr h
        simp only [List.lookup, hb, if_neg (fun e : g = f => hk (h.symm.trans e))]
      · have hb : (g == k) = false := beq_eq_false_iff_ne.mpr h
        simp only [List.lookup, hb]
        exact ih
theorem keys_putF (f : Str) (v : V) : ∀ fs : List (Str × V), f ∈ (putF f v fs).map (·.1) ∧ ∀ g, g ∈ fs.map (·.1) → g ∈ (putF f v fs).map (·.1)
  | [] => ⟨by simp [putF], fun g h => by simp at h⟩
  | (k, x) :: r => by
    obtain ⟨i1, i2⟩ := keys_putF f v r
    rw [show putF f v ((k, x) :: r) = (if k = f then (k, v) :: r else (k, x) :: putF f v r) from rfl]
    by_cases hk : k = f
    · rw [if_pos hk]
      subst hk
      exact ⟨by simp, fun g h => by simpa using h⟩
    · rw [if_neg hk]
      refine ⟨?_, fun g h => ?_⟩
      · rw [List.map_cons]
        exact List.mem_cons_of_mem _ i1
      · rw [List.map_cons] at h ⊢
        rcases List.mem_cons.mp h with e | e
        · exact List.mem_cons.mpr (.inl e)
        · exact List.mem_cons_of_mem _ (i2 g e)
theorem length_putF (f : Str) (v : V) : ∀ fs : List (Str × V), (putF f v fs).length ≤ fs.length + 1
  | [] => by simp [putF]
  | (k, x) :: r => by
    have ih := length_putF f v r
    rw [show putF f v ((k, x) :: r) = (if k = f then (k, v) :: r else (k, x) :: putF f v r) from rfl]
    by_cases hk : k = f
    · rw [if_pos hk, List.length_cons, List.length_cons]; omega
    · rw [if_neg hk, List.length_cons, List.length_cons]; omega
theorem RelO.some_of {v : V} {o : Option Value} (r : RelO (some v) o) : ∃ u, o = some u ∧ RelV v u := by
  cases o with
  | none => exact (show False from r).elim
  | some u => exact ⟨u, rfl, r⟩
theorem RelO.none_of {o : Option Value} (r : RelO none o) : o = none := by
  cases o with
  | none => rfl
  | some u => exact (show False from r).elim
theorem handed_of {v : V} {u : Value} (r : RelV v u) : PySem.W.handedIn u = true := by
  cases v with
  | non => cases (show u = Value.none from r); rfl
  | bl b => cases (show u = Value.bool b from r); rfl
  | int i => obtain ⟨t, e⟩ := (show ∃ t, u = Value.int i t from r); cases e; rfl
  | str x => obtain ⟨t, e⟩ := (show ∃ t, u = Value.str x t from r); cases e; rfl
  | byt b => obtain ⟨t, e⟩ := (show ∃ t, u = Value.bytes b t from r); cases e; rfl
  | flt b => obtain ⟨t, e⟩ := (show ∃ t, u = Value.float b t from r); cases e; rfl
  | ref a => cases (show u = Value.ref a from r); rfl
  | ty n => cases (show u = Value.type n from r); rfl
section
variable {P : Program} {w : World} {H H' : Hp} {h h' : Heap} {a C dx : Addr} {fs fs' : List (Str × V)}
theorem ins_get (hok : HOk P w H h) (e : H a = some (.ins C dx fs)) : ∃ mA, ObjM h a dx C mA ∧ (∀ f, RelO (fs.lookup f) (mA f)) ∧ PySem.Within mA (fs.map (·.1)) ∧ fs.length ≤ 1000 ∧ H dx = some (.own a) := by
  obtain ⟨d, z, ne, ob, mA, n, r, q⟩ := (show ObjOk P w H h a (.ins C dx fs) from hok a _ e)
  exact ⟨mA, ⟨ob, n, ne⟩, r, q, z, d⟩
end
structure Cls (K : PySem.W.Frag) (C : Addr) : Prop where
  pg : PySem.W.plainGet K C Str.empty = true
  hd : PySem.W.hasDictIn K C = true
  po : PySem.W.plainOver K C = true
  sa : PySem.W.findIn K (.ref C) "__setattr__" = some (some (.builtin "object.__setattr__"))
theorem Cls.get {K : PySem.W.Frag} {C : Addr} (c : Cls K C) (f : Str) : PySem.W.plainGet K C f = true := c.pg
def NoAttr (K : PySem.W.Frag) (C : Addr) (f : Str) : Prop := PySem.W.findIn K (.ref C) f = some none
theorem NoAttr.taker {K : PySem.W.Frag} {C : Addr} {f : Str} (n : NoAttr K C f) : PySem.W.takerIn K C f = some none := by
  unfold PySem.W.takerIn
  rw [show PySem.W.findIn K (.ref C) f = some none from n]
  rfl
structure Meth (K : PySem.W.Frag) (C : Addr) (m : Str) (f : Addr) : Prop where
  at_ : PySem.W.findIn K (.ref C) m = some (some (.ref f))
  fn : PySem.W.isFn K (.ref f) = true
  kp : PySem.W.keepIn K (.ref f) = true
section
variable {X : Cx} {pins : List (Addr × Obj)} {σ : St} {H : Hp} {s : Shared} {a C dx : Addr} {fs : List (Str × V)} {f : Str} {v : V} {A : Around} {E : Value → Shared → Prop}
theorem getattr_ok {b : Bool} {Q : Value → Shared → Prop} (I : Inv X pins σ H s) (e : H a = some (.ins C dx fs)) (c : Cls X.K C) (n : NoAttr X.K C f) (l : fs.lookup f = some v)
    (h : ∀ u s', Inv X pins σ H s' → RelV v u → Q u s') : wpAny (model X.prog X.w) A (getAttr (.ref a) f b) Q E s := by
  obtain ⟨mA, O, r, _, _, _⟩ := ins_get I.hok e
  obtain ⟨u, hu, ru⟩ := RelO.some_of (v := v) (o := mA f) (by rw [← l]; exact r f)
  exact get_map I.kIn O (c.get f) c.hd n hu (handed_of ru) (h u _ (I.tok _) ru)
theorem getmeth_ok {m : Str} {g : Addr} {pl : Sem Bool} {Q : Value × List Value → Shared → Prop} (I : Inv X pins σ H s) (e : H a = some (.ins C dx fs)) (c : Cls X.K C) (k : Meth X.K C m g) (l : fs.lookup m = none)
    (h : Q (.ref g, [.ref a]) s) : wpAny (model X.prog X.w) A (getMethod (.ref a) m pl) Q E s := by
  obtain ⟨mA, O, r, _, _, _⟩ := ins_get I.hok e
  have hn : mA m = none := RelO.none_of (by rw [← l]; exact r m)
  exact get_meth I.kIn O (c.get m) k.at_ k.fn hn h
theorem setattr_ok {y : V} {u : Value} {Q : Unit → Shared → Prop} (I : Inv X pins σ H s) (e : H a = some (.ins C dx fs)) (c : Cls X.K C) (n : NoAttr X.K C f) (hl : fs.length < 1000) (ry : RelV y u)
    (h : ∀ s', Inv X pins σ (upd H a (.ins C dx (putF f y fs))) s' → Q () s') : wpAny (model X.prog X.w) A (setAttr (.ref a) f u) Q E s := by
  obtain ⟨mA, O, r, wi, _, ho⟩ := ins_get I.hok e
  have hz : (fs.map (·.1)).length ≤ sizeLine := by rw [List.length_map, sizeLine_eq]; omega
  refine set_map I.kIn O c.sa c.po n.taker c.hd wi hz fun h' O' sb => h _ ?_
  have hd : ∃ o, h'.get? dx = some o := let ⟨o, _, _, e', _⟩ := O'.ns; ⟨o, e'⟩
  refine I.write (x := a) (e := dx) (by rw [e]; exact True.intro) (.inr ho) (fun b q hb z => (sb.2 b hb).trans z) hd ?_
  refine ⟨by rw [upd_ne O.ne]; exact ho, ?_, O.ne, O'.obj, _, O'.ns, fun g => ?_, fun g hg => ?_⟩
  · have := length_putF f y fs; omega
  · show RelO ((putF f y fs).lookup g) (if g = f then some u else mA g)
    rw [lookup_putF]
    by_cases q : g = f
    · rw [if_pos q, if_pos q]; exact ry
    · rw [if_neg q, if_neg q]; exact r g
  · by_cases q : g = f
    · rw [q]; exact (keys_putF f y fs).1
    · refine (keys_putF f y fs).2 g (wi g fun z => hg ?_)
      show (if g = f then some u else mA g) = none
      rw [if_neg q]; exact z
theorem Inv.made (I : Inv X pins σ H s) : Inv X pins σ (upd (upd H s.heap.objs.size (.own (s.heap.objs.size + 1))) (s.heap.objs.size + 1) (.ins C s.heap.objs.size []))
    { s with heap := (s.heap.push PySem.W.emptyDict).push (PySem.W.instObj C s.heap.objs.size) } := by
  have e1 : (s.heap.push PySem.W.emptyDict).get? s.heap.objs.size = some PySem.W.emptyDict := Heap.get?_push_size s.heap rfl
  have e2 : ((s.heap.push PySem.W.emptyDict).push (PySem.W.instObj C s.heap.objs.size)).get? (s.heap.objs.size + 1) = some (PySem.W.instObj C s.heap.objs.size) := by
    have := Heap.get?_push_size (s.heap.push PySem.W.emptyDict) (o := PySem.W.instObj C s.heap.objs.size) rfl
    rwa [Heap.size_push] at this
  have e3 : (s.heap.push PySem.W.emptyDict).Ns s.heap.objs.size (fun _ => none) := ⟨PySem.W.emptyDict, #[], _, e1, rfl, (fun e he => absurd he (by simp)), fun _ => rfl⟩
  have I1 := I.laid (a := s.heap.objs.size) (o := .own (s.heap.objs.size + 1)) (h' := s.heap.push PySem.W.emptyDict) (t' := s.toks) (fun b u q => Heap.get?_push_of_some _ q) (Nat.le_refl _) ⟨_, e1⟩
  refine I1.laid (a := s.heap.objs.size + 1) (o := .ins C s.heap.objs.size []) (t' := s.toks) (fun b u q => Heap.get?_push_of_some _ q) (Nat.le_of_eq (Heap.size_push _ _)) ?_
  have ne : s.heap.objs.size ≠ s.heap.objs.size + 1 := Nat.ne_of_lt (Nat.lt_succ_self _)
  refine ⟨by rw [upd_ne ne, upd_same], Nat.zero_le _, ne, e2, fun _ => none, (Heap.Ns1.of_empty e3).at fun o q => Heap.get?_push_of_some _ q, fun _ => True.intro, fun y hy => absurd rfl hy⟩
theorem attr_of {prog : Program} {w : World} {env : Env} {e : Expr} {f : Str} {pos : Pos} {s : Shared} {Q : Value → Shared → Prop} (hb : attributeBase e f env (eval e env) = eval e env)
    (h : wpAny (model prog w) A (eval e env) (fun o s₁ => wpAny (model prog w) A (getAttr o f true) Q E s₁) E s) : wpAny (model prog w) A (eval (.Attribute e f pos) env) Q E s :=
  Attribute_any_ h (by rw [arm_eval_Attribute, hb])
end
def tFld (K : PySem.W.Frag) (ta : TE) (f : Str) : TE := fun σ H Q => ta σ H fun x H1 => ∃ a C dx fs v, x = .ref a ∧ H1 a = some (.ins C dx fs) ∧ Cls K C ∧ NoAttr K C f ∧ fs.lookup f = some v ∧ Q v H1
def sFld (K : PySem.W.Frag) (ta tv : TE) (f : Str) : TS := fun D σ H => tv σ H fun y H1 => ta σ H1 fun x H2 => ∃ a C dx fs, x = .ref a ∧ H2 a = some (.ins C dx fs) ∧ Cls K C ∧ NoAttr K C f ∧ fs.length < 1000 ∧
  D.nx σ (upd H2 a (.ins C dx (putF f y fs)))
def InOp (X : Cx) (op : Operator) (rd : V → V → Hp → VK → Prop) : Prop :=
  ∀ (pins : List (Addr × Obj)) (s : Shared) (σ : St) (H : Hp) (x y : V) (u v : Value) (Q : VK), Inv X pins σ H s → RelV x u → RelV y v → rd x y H Q → wpAny (model X.prog X.w) X.A (inplaceOp op u v) (EP X pins σ Q) X.xe s
def sFldAug (K : PySem.W.Frag) (ta tv : TE) (rd : V → V → Hp → VK → Prop) (f : Str) : TS := fun D σ H => ta σ H fun x H1 => ∃ a C dx fs v, x = .ref a ∧ H1 a = some (.ins C dx fs) ∧ Cls K C ∧ NoAttr K C f ∧ fs.lookup f = some v ∧
  tv σ H1 fun y H2 => rd v y H2 fun z H3 => ∃ dx' fs', H3 a = some (.ins C dx' fs') ∧ fs'.length < 1000 ∧ D.nx σ (upd H3 a (.ins C dx' (putF f z fs')))
section
variable {X : Cx} {o e value : Expr} {f : Str} {pos pos' tpos : Pos} {ta tv : TE}
theorem pe_fld (he : PE X e ta) (hb : attributeBase e f X.env (eval e X.env) = eval e X.env) : PE X (.Attribute e f pos) (tFld X.K ta f) := by
  intro pins s σ H Q I h
  refine attr_of hb (thn (he pins s σ H _ I h) fun u s1 ⟨x, H1, I1, rx, a, C, dx, fs, v, ex, ea, c, n, l, q⟩ => ?_)
  subst ex
  obtain rfl : u = Value.ref a := rx
  exact getattr_ok I1 ea c n l fun u' s2 I2 ru => ⟨v, H1, I2, ru, q⟩
theorem ps_fld (ha : PE X o ta) (hv : PE X value tv) (hs : swapsWith value (some (.Attribute o f pos')) pos.line X.env = pure false) : PS X (.Assign [.Attribute o f pos'] value pos) (sFld X.K ta tv f) := by
  intro pins s σ H D I h
  refine plainObj_wpAny_Assign_Attribute (thn (hv pins s σ H _ I h) fun u s1 ⟨y, H1, I1, ry, q⟩ => thn (ha pins s1 σ H1 _ I1 q) fun ov s2 ⟨x, H2, I2, rx, a, C, dx, fs, ex, ea, c, n, l, q2⟩ => ?_) hs
  subst ex
  obtain rfl : ov = Value.ref a := rx
  exact setattr_ok I2 ea c n l ry fun s3 I3 => ⟨σ, _, I3, q2⟩
theorem ps_fldaug {op : Operator} {rd : V → V → Hp → VK → Prop} (ha : PE X o ta) (hv : PE X value tv) (hop : InOp X op rd) : PS X (.AugAssign (.Attribute o f tpos) op value pos) (sFldAug X.K ta tv rd f) := by
  intro pins s σ H D I h
  refine wpAny_AugAssign_AttributeAny (thn (ha pins s σ H _ I h) fun ov s1 ⟨x, H1, I1, rx, a, C, dx, fs, v, ex, ea, c, n, l, q⟩ => ?_)
  subst ex
  obtain rfl : ov = Value.ref a := rx
  refine getattr_ok I1 ea c n l fun u s2 I2 ru => thn (hv pins s2 σ H1 _ I2 q) fun w3 s3 ⟨y, H2, I3, ry, q3⟩ => thn (hop pins s3 σ H2 v y u w3 _ I3 ru ry q3) fun w4 s4 ⟨z, H3, I4, rz, dx', fs', ea', l', q4⟩ => ?_
  exact setattr_ok I4 ea' c n l' rz fun s5 I5 => ⟨σ, _, I5, q4⟩
def rAdd : V → V → Hp → VK → Prop := fun x y H Q => ∃ i j, x = .int i ∧ y = .int j ∧ Q (.int (i + j)) H
theorem in_add : InOp X .Add rAdd := by
  rintro pins s σ H x y u v Q I rx ry ⟨i, j, rfl, rfl, q⟩
  obtain ⟨t, rfl⟩ := (show ∃ t, u = Value.int i t from rx)
  obtain ⟨t', rfl⟩ := (show ∃ t', v = Value.int j t' from ry)
  exact PyProof.Rows.iadd_int ⟨.int (i + j), H, I.tok _, ⟨_, rfl⟩, q⟩
end
section
variable {X : Cx} {pins : List (Addr × Obj)} {σ : St} {H : Hp} {s : Shared} {A : Around} {E : Value → Shared → Prop} {Q : Value → Shared → Prop} {c : Value} {b : Bool}
end
end L2
namespace L2
open PySem PySem.Spec PyProof.Rows
structure Room (k : Nat) (A : Around) : Prop where
  hd : A.handled = none
  dp : A.depth + 3 * k + 5 < recursionLimit
  un : A.units + 16 * k + 200 < cLine
theorem Room.mono {j k : Nat} {A : Around} (r : Room k A) (h : j ≤ k) : Room j A := ⟨r.hd, by have := r.dp; omega, by have := r.un; omega⟩
theorem Room.deeper {k : Nat} {A : Around} (r : Room (k + 1) A) (env : Env) : Room k (A.deeper env) :=
  ⟨r.hd, by have := r.dp; show A.depth + 1 + 3 * k + 5 < _; omega, by have := r.un; show A.units + 3 + 16 * k + 200 < _; omega⟩
theorem make_depth {A : Around} {C : Addr} {us : List Value} {kw : List (Str × Value)} : (A.under (.builtin "type.__call__" ⟨.ref C :: us, kw⟩)).depth = A.depth + 1 := by
  first | rfl | simp [Around.under, Code.weight, Code.isCreation, Code.isGuard, Code.isCaller, Code.frames, Code.isFrame, guardIds]
theorem make_units {A : Around} {C : Addr} {us : List Value} {kw : List (Str × Value)} : (A.under (.builtin "type.__call__" ⟨.ref C :: us, kw⟩)).units = A.units + 1 := by
  first | rfl | simp [Around.under, Code.cUnits, Code.frames, Code.isFrame]
theorem Room.make {k : Nat} {A : Around} (r : Room (k + 1) A) (C : Addr) (us : List Value) (kw : List (Str × Value)) : Room k (A.under (.builtin "type.__call__" ⟨.ref C :: us, kw⟩)) :=
  ⟨r.hd, by have := r.dp; rw [make_depth]; omega, by have := r.un; rw [make_units]; omega⟩
theorem Room.depth {k : Nat} {A : Around} (r : Room k A) : A.depth < recursionLimit := by have := r.dp; omega
theorem Room.units {k : Nat} {A : Around} (r : Room k A) : A.units + 64 < cLine := by have := r.un; omega
def tNil : TA := fun _ H Q => Q [] H
def tCons (ta : TE) (tr : TA) : TA := fun σ H Q => ta σ H fun x H1 => tr σ H1 fun xs H2 => Q (x :: xs) H2
section
variable {X : Cx} {e : Expr} {es : List Expr} {te : TE} {t : TA} {pos : Pos}
theorem pa_nil : PA X [] tNil := fun _ _ _ _ H Q I h => Calls.spliced_nil ⟨[], H, I, .nil, h⟩
theorem pa_cons (ha : PE X e te) (hr : PA X es t) (hs : starEach (e :: es) X.env = (false, eval e X.env) :: starEach es X.env := by rfl) : PA X (e :: es) (tCons te t) := by
  intro pos pins s σ H Q I h
  rw [hs]
  show wpAny _ _ (spliced ((false, eval e X.env) :: backTo pos (starEach es X.env))) _ _ s
  refine Calls.spliced_cons (thn (ha pins s σ H _ I h) fun u s1 ⟨x, H1, I1, r1, q1⟩ => ?_)
  exact thn (hr pos pins s1 σ H1 _ I1 q1) fun us s2 ⟨xs, H2, I2, r2, q2⟩ => ⟨x :: xs, H2, I2, .cons r1 r2, q2⟩
def tTup (t : TA) : TE := fun σ H Q => t σ H fun xs H1 => xs.length ≤ sizeLine ∧ ∀ p, H1 p = none → Q (.ref p) (upd H1 p (.tup xs))
def tLst (t : TA) : TE := fun σ H Q => t σ H fun xs H1 => xs.length ≤ sizeLine ∧ ∀ p, H1 p = none → Q (.ref p) (upd H1 p (.lst xs))
theorem pe_tup {x1} (h : PA X es t) : PE X (.Tuple es x1 pos) (tTup t) := by
  intro pins s σ H Q I hq
  refine wpAny_Tuple_spliced (thn (h pos pins s σ H _ I hq) fun us s1 ⟨xs, H1, I1, r, z, q⟩ => ⟨by rw [← r.length]; exact z, ?_⟩)
  have hf : H1 s1.heap.objs.size = none := I1.hok.fresh (Nat.le_refl _)
  refine ⟨.ref s1.heap.objs.size, upd H1 s1.heap.objs.size (.tup xs), I1.laid (t' := s1.toks) (fun b u e => Heap.get?_push_of_some _ e) (Nat.le_refl _) ?_, rfl, q _ hf⟩
  exact ⟨z, us, r, ⟨_, Heap.get?_push_size _ rfl, rfl, _, rfl⟩⟩
theorem pe_lst (h : PA X es t) : PE X (.List es pos) (tLst t) := by
  intro pins s σ H Q I hq
  refine wpAny_List_spliced (thn (h pos pins s σ H _ I hq) fun us s1 ⟨xs, H1, I1, r, z, q⟩ => ⟨by rw [← r.length]; exact z, ?_⟩)
  have hf : H1 s1.heap.objs.size = none := I1.hok.fresh (Nat.le_refl _)
  refine ⟨.ref s1.heap.objs.size, upd H1 s1.heap.objs.size (.lst xs), I1.laid (t' := s1.toks) (fun b u e => Heap.get?_push_of_some _ e) (Nat.le_refl _) ?_, rfl, q _ hf⟩
  exact ⟨z, us, 0, r, Heap.get?_push_size _ rfl⟩
end
abbrev Sp := List V → Hp → VK → XK → Prop
abbrev CXT := List Env → Hp → Shared → XK → Value → Shared → Prop
structure Env0 (P : Program) (w : World) (K : PySem.W.Frag) (mg : Str → Option Value) (base : Heap) (A : Around) (outer : List Env) (s : Shared) (H : Hp) : Prop where
  frames : A.frames = some outer
  mod : Mod K mg base
  bs : ∀ b o, base.get? b = some o → s.heap.get? b = some o ∧ H b = none
  bsz : base.objs.size ≤ s.heap.objs.size
  funs : s.heap.FunFrames base outer
  frf : ∀ b ∈ frs outer, H b = none
  hok : HOk P w H s.heap
  bare : AllBare s.gens
def CE (outer : List Env) (P : Program) (w : World) (H : Hp) (s : Shared) (Q : VK) (u : Value) (s' : Shared) : Prop :=
  ∃ v H', s'.os = s.os ∧ AllBare s'.gens ∧ Un (frs outer) [] H H' s.heap s'.heap ∧ HOk P w H' s'.heap ∧ RelV v u ∧ Q v H'
def CR (CX : CXT) (outer : List Env) (P : Program) (w : World) (H : Hp) (s : Shared) (Q : VK) (E : XK) (r : Result) (s' : Shared) : Prop :=
  match r with
  | .ok (.ret u) => CE outer P w H s Q u s'
  | .ok _ => False
  | .error e => CX outer H s E e s'
structure FnOk (P : Program) (w : World) (K : PySem.W.Frag) (mg : Str → Option Value) (base : Heap) (CX : CXT) (k : Nat) (f : Addr) (fd : FuncData) (ps : List Str) (sp : Sp) : Prop where
  len : ∀ vs H Q E, sp vs H Q E → vs.length = ps.length
  run : ∀ (A : Around) (outer : List Env) (s : Shared) (H : Hp) (args : Args) (us : List Value) (vs : List V) (Q : VK) (E : XK), Room k A → Env0 P w K mg base A outer s H → BindsTo s fd args (ps.zip us) → Vals vs us → sp vs H Q E →
    codeAny (model P w) A (.call (.ref f) args) (CR CX outer P w H s Q E) s
theorem Env0.make {P : Program} {w : World} {K : PySem.W.Frag} {mg : Str → Option Value} {base : Heap} {A : Around} {outer : List Env} {s : Shared} {H : Hp} (e : Env0 P w K mg base A outer s H) (C : Addr) (us : List Value) (kw : List (Str × Value)) :
    Env0 P w K mg base (A.under (.builtin "type.__call__" ⟨.ref C :: us, kw⟩)) outer s H := ⟨by first | exact e.frames | (simpa [Around.under, Code.envs, Code.isFrame, pushEnvs] using e.frames), e.mod, e.bs, e.bsz, e.funs, e.frf, e.hok, e.bare⟩
section
variable {X : Cx} {pins : List (Addr × Obj)} {σ : St} {H : Hp} {s s' : Shared}
theorem Inv.env0 (I : Inv X pins σ H s) : Env0 X.prog X.w X.K X.mg X.base X.A X.stack s H :=
  ⟨I.ok.frames, I.ok.mod, I.bs, Nat.le_trans I.ok.bsz I.sz, I.stack, I.stkFree, I.hok, I.bare⟩
theorem Inv.after {Q : VK} {u : Value} (I : Inv X pins σ H s) (h : CE X.stack X.prog X.w H s Q u s') : EP X pins σ Q u s' := by
  obtain ⟨v, H', os, bare, un, hok, r, q⟩ := h
  obtain ⟨hh, g, d, t, os'⟩ := s'
  obtain rfl : os' = s.os := os
  exact ⟨v, H', I.call (h' := hh) (g' := g) (d' := d) (t' := t) (ch := []) un hok bare (fun b z => absurd z (by simp)), r, q⟩
end
def tCall (sp : Sp) (dvs : List V) (E : XK) (t : TA) : TE := fun σ H Q => t σ H fun vs H1 => sp (vs ++ dvs) H1 Q E
def tMeth (C : Addr) (m : Str) (sp : Sp) (dvs : List V) (E : XK) (ta : TE) (t : TA) : TE := fun σ H Q => ta σ H fun x H1 => ∃ a dx fs, x = .ref a ∧ H1 a = some (.ins C dx fs) ∧ fs.lookup m = none ∧
  t σ H1 fun vs H2 => sp (x :: (vs ++ dvs)) H2 Q E
def tMake (C : Addr) (sp : Sp) (dvs : List V) (E : XK) (t : TA) : TE := fun σ H Q => t σ H fun vs H1 => ∀ x dx, H1 x = none → H1 dx = none → dx ≠ x →
  sp (.ref x :: (vs ++ dvs)) (upd (upd H1 dx (.own x)) x (.ins C dx [])) (fun v H2 => v = .non ∧ Q (.ref x) H2) E
def Binds (K : PySem.W.Frag) (fd : FuncData) (ps : List Str) (ds : List Value) : Prop :=
  ∀ (s : Shared) (us : List Value), K.In s.heap → (us ++ ds).length = ps.length → BindsTo s fd ⟨us, []⟩ (ps.zip (us ++ ds))
theorem Binds.all {K : PySem.W.Frag} {fd : FuncData} {ps : List Str} (h : ∀ us : List Value, us.length = ps.length → bindArgs fd ⟨us, []⟩ = pure (ps.zip us)) : Binds K fd ps [] := fun s us _ hl => by
  rw [List.append_nil] at hl ⊢
  exact .of_eq (h us hl)
def Passes (CX : CXT) (X : Cx) (E : XK) : Prop := ∀ (pins : List (Addr × Obj)) (σ : St) (H : Hp) (s : Shared) (e : Value) (s' : Shared), Inv X pins σ H s → CX X.stack H s E e s' → X.xe e s'
section
variable {X : Cx} {CX : CXT} {k : Nat} {f C : Addr} {fd : FuncData} {ps : List Str} {sp : Sp} {dvs : List V} {ds : List Value} {E : XK} {x m : Str} {p pos apos : Pos} {e o : Expr} {es : List Expr} {ta : TE} {t : TA}
theorem run_fn {pins : List (Addr × Obj)} {σ : St} {H : Hp} {s : Shared} {Q : VK} {us : List Value} {vs : List V} (F : FnOk X.prog X.w X.K X.mg X.base CX k f fd ps sp) (hr : Room k X.A) (hb : Binds X.K fd ps ds) (hd : Vals dvs ds) (hx : Passes CX X E)
    (I : Inv X pins σ H s) (r : Vals vs us) (h : sp (vs ++ dvs) H Q E) : wpAny (model X.prog X.w) X.A (call (.ref f) us) (EP X pins σ Q) X.xe s := by
  have r2 : Vals (vs ++ dvs) (us ++ ds) := r.append hd
  have hl : (us ++ ds).length = ps.length := by rw [← r2.length]; exact F.len _ _ _ _ h
  refine wpAny_call (codeAny_mono (F.run X.A X.stack s H ⟨us, []⟩ (us ++ ds) (vs ++ dvs) Q E hr I.env0 (hb s us I.kIn hl) r2 h) fun r s' hq => ?_)
  cases r with
  | error e => exact hx pins σ H s e s' I hq
  | ok fl =>
    cases fl with
    | ret u => exact I.after hq
    | next => exact False.elim hq
    | brk => exact False.elim hq
    | cont => exact False.elim hq
theorem pe_call (F : FnOk X.prog X.w X.K X.mg X.base CX k f fd ps sp) (hr : Room k X.A) (hg : Gl X x) (hm : X.mg x = some (.ref f)) (hk : PySem.W.keepIn X.K (.ref f) = true) (hb : Binds X.K fd ps ds) (hd : Vals dvs ds) (hx : Passes CX X E)
    (ha : PA X (e :: es) t) (hdb : (x == ("__debug__" : Str)) = false := by decide) (he : starEach (e :: es) X.env = (false, eval e X.env) :: starEach es X.env := by rfl) (hpl : (backTo pos (starEach es X.env)).any (·.1) = false := by rfl) :
    PE X (.Call (.Name x p) (e :: es) [] pos) (tCall sp dvs E t) := by
  intro pins s σ H Q I h
  refine wpAny_Call_Name_kw (ld_glob I hg hm ?_ hdb)
  refine PySem.W.callWith_K (h₀ := X.base) I.ok.mod.kin hk (thn (ha pos pins s σ H _ I h) fun us s1 ⟨vs, H1, I1, r, q⟩ => ⟨I1.kIn, ?_⟩) he hpl
  exact run_fn F hr hb hd hx I1 r q
theorem pe_meth {pl : Sem Bool} (he : PE X o ta) (c : Cls X.K C) (hm : Meth X.K C m f) (F : FnOk X.prog X.w X.K X.mg X.base CX k f fd ps sp) (hr : Room k X.A) (hb : Binds X.K fd ps ds) (hd : Vals dvs ds) (hx : Passes CX X E) (ha : PA X (e :: es) t)
    (hst : starEach (e :: es) X.env = (false, eval e X.env) :: starEach es X.env := by rfl) (hpl : (backTo pos (starEach es X.env)).any (·.1) = false := by rfl)
    (ht : eval (.Call (.Attribute o m apos) (e :: es) [] pos) X.env = (do
      let ov ← eval o X.env
      standAt apos.atName
      let (f, first) ← holding [ov] (getMethod ov m pl)
      callWith pos f first (backTo pos (starEach (e :: es) X.env)) (backToKw pos (keywordEach [] X.env))) := by rfl) :
    PE X (.Call (.Attribute o m apos) (e :: es) [] pos) (tMeth C m sp dvs E ta t) := by
  intro pins s σ H Q I h
  refine PySem.W.methodCall_KW (pl := pl) (thn (he pins s σ H _ I h) fun u s1 ⟨x, H1, I1, rx, a, dx, fs, ex, ea, l, q⟩ => ?_) ht
  subst ex
  obtain rfl : u = Value.ref a := rx
  refine getmeth_ok I1 ea c hm l ?_
  refine PySem.W.callWith_K (first := [.ref a]) (h₀ := X.base) I.ok.mod.kin hm.kp (thn (ha pos pins s1 σ H1 _ I1 q) fun us s2 ⟨vs, H2, I2, r, q2⟩ => ⟨I2.kIn, ?_⟩) hst hpl
  exact run_fn (us := .ref a :: us) (vs := .ref a :: vs) F hr hb hd hx I2 (.cons rfl r) q2
theorem pe_meth0 {pl : Sem Bool} (he : PE X o ta) (c : Cls X.K C) (hm : Meth X.K C m f) (F : FnOk X.prog X.w X.K X.mg X.base CX k f fd ps sp) (hr : Room k X.A) (hb : Binds X.K fd ps ds) (hd : Vals dvs ds) (hx : Passes CX X E)
    (ht : eval (.Call (.Attribute o m apos) [] [] pos) X.env = (do
      let ov ← eval o X.env
      standAt apos.atName
      let (f, first) ← holding [ov] (getMethod ov m pl)
      callWith pos f first (backTo pos (starEach [] X.env)) (backToKw pos (keywordEach [] X.env))) := by rfl) :
    PE X (.Call (.Attribute o m apos) [] [] pos) (tMeth C m sp dvs E ta tNil) := by
  intro pins s σ H Q I h
  refine PySem.W.methodCall_KW (pl := pl) (thn (he pins s σ H _ I h) fun u s1 ⟨x, H1, I1, rx, a, dx, fs, ex, ea, l, q⟩ => ?_) ht
  subst ex
  obtain rfl : u = Value.ref a := rx
  refine getmeth_ok I1 ea c hm l ?_
  exact PySem.W.callWith_K0 (first := [.ref a]) I1.kIn hm.kp (run_fn (us := [.ref a]) (vs := [.ref a]) F hr hb hd hx I1 (.cons rfl .nil) q)
structure Mk (K : PySem.W.Frag) (C f : Addr) : Prop where
  makes : PySem.W.makesIn K C = true
  init : PySem.W.findIn K (.ref C) "__init__" = some (some (.ref f))
  fn : PySem.W.isFn K (.ref f) = true
  kp : PySem.W.keepIn K (.ref C) = true
theorem run_make {pins : List (Addr × Obj)} {σ : St} {H : Hp} {s : Shared} {Q : VK} {us : List Value} {vs : List V} (M : Mk X.K C f) (F : FnOk X.prog X.w X.K X.mg X.base CX k f fd ps sp) (hr : Room (k + 1) X.A) (hb : Binds X.K fd ps ds) (hd : Vals dvs ds)
    (hx : Passes CX X E) (I : Inv X pins σ H s) (r : Vals vs us)
    (h : ∀ x dx, H x = none → H dx = none → dx ≠ x → sp (.ref x :: (vs ++ dvs)) (upd (upd H dx (.own x)) x (.ins C dx [])) (fun v H2 => v = .non ∧ Q (.ref x) H2) E) :
    wpAny (model X.prog X.w) X.A (call (.ref C) us) (EP X pins σ Q) X.xe s := by
  have hq := h (s.heap.objs.size + 1) s.heap.objs.size (I.hok.fresh (Nat.le_succ _)) (I.hok.fresh (Nat.le_refl _)) (Nat.ne_of_lt (Nat.lt_succ_self _))
  have I2 := Inv.made (C := C) I
  have r2 : Vals (V.ref (s.heap.objs.size + 1) :: (vs ++ dvs)) (Value.ref (s.heap.objs.size + 1) :: (us ++ ds)) := .cons rfl (r.append hd)
  have hl : (Value.ref (s.heap.objs.size + 1) :: us ++ ds).length = ps.length := by
    have e := r2.length
    rw [F.len _ _ _ _ hq] at e
    exact e.symm
  refine wpAny_call (make_map (f := f) I.kIn M.makes M.init (beq_iff_eq.mp M.fn) (codeAny_mono (F.run _ X.stack _ _ ⟨Value.ref (s.heap.objs.size + 1) :: us, []⟩ (Value.ref (s.heap.objs.size + 1) :: (us ++ ds)) _ _ E (hr.make C us [])
    (I2.env0.make C us []) (hb _ (Value.ref (s.heap.objs.size + 1) :: us) I2.kIn hl) r2 hq) fun r s' hq' => ?_))
  cases r with
  | error e => exact hx pins σ _ _ e s' I2 hq'
  | ok fl =>
    cases fl with
    | ret u =>
      obtain ⟨v, H', I3, rv, ev, q3⟩ := I2.after hq'
      subst ev
      exact ⟨rv, ⟨V.ref (s.heap.objs.size + 1), H', I3, rfl, q3⟩⟩
    | next => exact False.elim hq'
    | brk => exact False.elim hq'
    | cont => exact False.elim hq'
theorem pe_make (M : Mk X.K C f) (F : FnOk X.prog X.w X.K X.mg X.base CX k f fd ps sp) (hr : Room (k + 1) X.A) (hg : Gl X x) (hm : X.mg x = some (.ref C)) (hb : Binds X.K fd ps ds) (hd : Vals dvs ds) (hx : Passes CX X E)
    (ha : PA X (e :: es) t) (hdb : (x == ("__debug__" : Str)) = false := by decide) (he : starEach (e :: es) X.env = (false, eval e X.env) :: starEach es X.env := by rfl) (hpl : (backTo pos (starEach es X.env)).any (·.1) = false := by rfl) :
    PE X (.Call (.Name x p) (e :: es) [] pos) (tMake C sp dvs E t) := by
  intro pins s σ H Q I h
  refine wpAny_Call_Name_kw (ld_glob I hg hm ?_ hdb)
  refine PySem.W.callWith_K (h₀ := X.base) I.ok.mod.kin M.kp (thn (ha pos pins s σ H _ I h) fun us s1 ⟨vs, H1, I1, r, q⟩ => ⟨I1.kIn, ?_⟩) he hpl
  exact run_make M F hr hb hd hx I1 r q
theorem pe_make0 (M : Mk X.K C f) (F : FnOk X.prog X.w X.K X.mg X.base CX k f fd ps sp) (hr : Room (k + 1) X.A) (hg : Gl X x) (hm : X.mg x = some (.ref C)) (hb : Binds X.K fd ps ds) (hd : Vals dvs ds) (hx : Passes CX X E)
    (hdb : (x == ("__debug__" : Str)) = false := by decide) : PE X (.Call (.Name x p) [] [] pos) (tMake C sp dvs E tNil) := by
  intro pins s σ H Q I h
  refine wpAny_Call_Name_kw (ld_glob I hg hm ?_ hdb)
  exact PySem.W.callWith_K0 I.kIn M.kp (run_make (us := []) M F hr hb hd hx I .nil h)
end
section
variable {X : Cx} {CX : CXT} {k : Nat} {f C : Addr} {fd : FuncData} {ps ks : List Str} {sp : Sp} {E : XK} {x m : Str} {p pos apos kpos : Pos} {e o : Expr} {es : List Expr} {kws : List Keyword} {te ta : TE} {t tk : TA} {nm : Option Str}
variable {g : List Value → List Value → List Value} {gV : List V → List V → List V}
end
structure FnScope (N P : List Str) (sc : Scope) : Prop where
  kind : sc.kind = .function
  co : sc.isCoroutine = false
  gen : sc.isGenerator = false
  nd : N.Nodup
  pre : N.take P.length = P
  par : ∀ x ∈ P, sc.names.lookup x = some .local ∨ sc.names.lookup x = some .cell
  nofree : ∀ y ∈ sc.names, y.2 ≠ .free
theorem bindL_out {kindOf : Str → Option NameKind} {x : Str} : ∀ {binds : List (Str × Value)} {m : Str → Option Value}, (∀ v, (x, v) ∉ binds) → bindL kindOf binds m x = m x
  | [], _, _ => rfl
  | (n, v) :: r, m, h => by
    unfold bindL
    rw [bindL_out fun w hw => h w (List.mem_cons_of_mem _ hw)]
    split
    · have : x ≠ n := by rintro rfl; exact h v List.mem_cons_self
      simp [this]
    · rfl
theorem bindC_out {kindOf : Str → Option NameKind} {x : Str} : ∀ {binds : List (Str × Value)} {m : Str → Option Value}, (∀ v, (x, v) ∉ binds) → bindC kindOf binds m x = m x
  | [], _, _ => rfl
  | (n, v) :: r, m, h => by
    unfold bindC
    rw [bindC_out fun w hw => h w (List.mem_cons_of_mem _ hw)]
    split
    · rfl
    · have : x ≠ n := by rintro rfl; exact h v List.mem_cons_self
      simp [this]
theorem bindL_get {kindOf : Str → Option NameKind} {x : Str} {v : Value} : ∀ {P : List Str} {vs : List Value} {i : Nat} {m : Str → Option Value}, P.Nodup → P[i]? = some x → vs[i]? = some v → kindOf x = some .local →
    bindL kindOf (P.zip vs) m x = some v
  | [], _, _, _, _, h, _, _ => by simp at h
  | _ :: _, [], _, _, _, _, h, _ => by simp at h
  | p :: P, w :: vs, 0, m, nd, h1, h2, hk => by
    simp at h1 h2; subst h1; subst h2
    show bindL kindOf ((p, w) :: P.zip vs) m p = _
    unfold bindL
    rw [bindL_out fun v hv => (List.nodup_cons.mp nd).1 (List.of_mem_zip hv).1, if_pos hk]
    simp
  | p :: P, w :: vs, i + 1, m, nd, h1, h2, hk => by
    show bindL kindOf ((p, w) :: P.zip vs) m x = _
    unfold bindL
    exact bindL_get (i := i) (List.nodup_cons.mp nd).2 (by simpa using h1) (by simpa using h2) hk
theorem bindC_get {kindOf : Str → Option NameKind} {x : Str} {v : Value} : ∀ {P : List Str} {vs : List Value} {i : Nat} {m : Str → Option Value}, P.Nodup → P[i]? = some x → vs[i]? = some v → kindOf x ≠ some .local →
    bindC kindOf (P.zip vs) m x = some v
  | [], _, _, _, _, h, _, _ => by simp at h
  | _ :: _, [], _, _, _, _, h, _ => by simp at h
  | p :: P, w :: vs, 0, m, nd, h1, h2, hk => by
    simp at h1 h2; subst h1; subst h2
    show bindC kindOf ((p, w) :: P.zip vs) m p = _
    unfold bindC
    rw [bindC_out fun v hv => (List.nodup_cons.mp nd).1 (List.of_mem_zip hv).1, if_neg hk]
    simp
  | p :: P, w :: vs, i + 1, m, nd, h1, h2, hk => by
    show bindC kindOf ((p, w) :: P.zip vs) m x = _
    unfold bindC
    exact bindC_get (i := i) (List.nodup_cons.mp nd).2 (by simpa using h1) (by simpa using h2) hk
def start (N : List Str) (vs : List V) : St := vs.map some ++ List.replicate (N.length - vs.length) none
def cxOf (CX : CXT) (P : Program) (w : World) (K : PySem.W.Frag) (mg : Str → Option Value) (base : Heap) (N : List Str) (qual : Str) (scope : Scope) (f : Addr) (cd : Value) (A : Around) (outer : List Env) (s : Shared) (H : Hp) (E : XK) : Cx where
  prog := P
  w := w
  K := K
  mg := mg
  base := base
  A := A.deeper (envOfC qual scope s.heap.objs.size f cd)
  N := N
  s_0 := s
  H_0 := H
  env := envOfC qual scope s.heap.objs.size f cd
  outer := outer
  stack := envOfC qual scope s.heap.objs.size f cd :: outer
  ex := []
  calm := true
  fn := fun _ => true
  pn := []
  xe := fun e s' => wpAny (model P w) (A.deeper (envOfC qual scope s.heap.objs.size f cd)) (leaving (envOfC qual scope s.heap.objs.size f cd) e) (fun _ s'' => CX outer H s E e s'') (fun e' s'' => CX outer H s E e' s'') s'
theorem cell_has {sc : Scope} {n : Nat} {x : Str} (h : sc.names.lookup x = some .cell) : ∃ c, (cellsFrom n sc.names []).lookup x = some c := by
  have q := PySem.W.cellsFrom_some sc.names n [] (.inl h)
  exact Option.isSome_iff_exists.mp q
theorem inv_start {CX : CXT} {P : Program} {w : World} {K : PySem.W.Frag} {mg : Str → Option Value} {base : Heap} {N ps : List Str} {qual : Str} {scope : Scope} {f : Addr} {cd : Value} {A : Around} {outer : List Env} {s s1 : Shared} {H : Hp} {E : XK} {us : List Value} {vs : List V}
    (S : FnScope N ps scope) (hd : A.handled = none) (e0 : Env0 P w K mg base A outer s H) (hl : vs.length = ps.length) (r : Vals vs us)
    (x : InCallC s s.heap.objs.size (bindL (envOfC qual scope s.heap.objs.size f cd).kindOf (ps.zip us) fun _ => none) (cellsFrom (s.heap.objs.size + 1) scope.names []) (bindC (envOfC qual scope s.heap.objs.size f cd).kindOf (ps.zip us) fun _ => none) s1) :
    Inv (cxOf CX P w K mg base N qual scope f cd A outer s H E) [] (start N vs) H s1 := by
  have hpl : ps.length ≤ N.length := by have := congrArg List.length S.pre; rw [List.length_take] at this; omega
  obtain ⟨h1, tk, rfl, hk⟩ := x.done
  have noA : ∀ b : Addr, b ∉ (cxOf CX P w K mg base N qual scope f cd A outer s H E).ex := fun b z => absurd (show b ∈ ([] : List Addr) from z) (by simp)
  refine ⟨⟨e0.mod, S.kind, rfl, rfl, Nat.le_refl _, fun y z c h1 h2 => ?_, fun y hy => ?_, fun y c _ h => ?_, fun _ => hd, Around.frames_deeper e0.frames, .inr ⟨rfl, rfl⟩, fun b z => absurd z (noA b), e0.bs, e0.bsz, fun b _ _ => noA b, fun b z => absurd z (noA b), e0.funs, e0.frf⟩,
    rfl, e0.bare, Un.kept hk, ⟨_, x.toInCall.ns, fun i y v h1 h2 h3 => ?_⟩, fun y c h => ⟨_, x.cell y c h⟩, e0.hok.fresh (Nat.le_refl _), fun y c h => ?_, fun p hp => absurd (show p ∈ ([] : List (Addr × Obj)) from hp) (by simp), e0.hok.kept hk, ?_⟩
  · exact name_of_addr x.apart (PySem.mem_of_lookup h1) (PySem.mem_of_lookup h2)
  · have hy : scope.names.lookup y = some .cell ∨ scope.names.lookup y = some .free := hy
    rcases hy with hy | hy
    · exact cell_has hy
    · exact absurd rfl (S.nofree _ (PySem.mem_of_lookup hy))
  · exact Nat.le_of_lt (x.above y c (PySem.mem_of_lookup h))
  · have hi : i < vs.length := by
      unfold start at h2
      by_cases hi : i < vs.length
      · exact hi
      · rw [List.getElem?_append_right (by simpa using hi)] at h2
        rw [List.getElem?_replicate] at h2
        split at h2 <;> cases h2
    have ha : vs[i]? = some v := by
      unfold start at h2
      rw [List.getElem?_append_left (by simpa using hi), List.getElem?_map] at h2
      cases e : vs[i]? with
      | none => rw [e] at h2; cases h2
      | some a => rw [e] at h2; cases h2; rfl
    obtain ⟨u, hu, rv⟩ := r.get ha
    have hp : ps[i]? = some y := by
      rw [← S.pre, List.getElem?_take_of_lt (by omega)]; exact h1
    have ndP : ps.Nodup := by rw [← S.pre]; exact S.nd.sublist (List.take_sublist _ _)
    refine ⟨u, rv, ?_⟩
    rcases S.par y (List.mem_of_getElem? hp) with k | k
    · exact .inl ⟨k, bindL_get ndP hp hu k⟩
    · obtain ⟨c, e⟩ := cell_has (n := s.heap.objs.size + 1) k
      refine .inr ⟨.inl k, c, e, ?_⟩
      have q := x.cell y c e
      rw [bindC_get ndP hp hu (by show scope.names.lookup y ≠ _; rw [k]; decide)] at q
      exact q
  · exact e0.hok.fresh (Nat.le_of_lt (x.above y c (PySem.mem_of_lookup h)))
  · unfold start
    show _ = N.length
    rw [List.length_append, List.length_map, List.length_replicate]
    omega
theorem fn_of {CX : CXT} {P : Program} {w : World} {K : PySem.W.Frag} {mg : Str → Option Value} {base : Heap} {k : Nat} {f : Addr} {name qual : Str} {params : Arguments} {body : List Stmt} {scope : Scope} {dV kV doc pm cdv ct oc : Value} {an od : Option Addr}
    {osl : Array (Option Value)} {N ps : List Str} {sp : Sp} (lk : K.lookup f = some ⟨oc, od, .func (PySem.W.fnOf name qual params body scope dV kV doc pm an cdv ct), osl⟩) (hcd : PySem.W.codeIn K cdv qual = true) (S : FnScope N ps scope)
    (len : ∀ vs H Q E, sp vs H Q E → vs.length = ps.length)
    (hbody : ∀ (A : Around) (outer : List Env) (s : Shared) (H : Hp) (vs : List V) (Q : VK) (E : XK), Room k (A.deeper (envOfC qual scope s.heap.objs.size f cdv)) → sp vs H Q E →
      ∃ t, PSs (cxOf CX P w K mg base N qual scope f cdv A outer s H E) body t ∧ t { nx := fun _ H' => Q .non H', rt := Q } (start N vs) H) :
    FnOk P w K mg base CX (k + 1) f (PySem.W.fnOf name qual params body scope dV kV doc pm an cdv ct) ps sp := by
  refine ⟨len, fun A outer s H args us vs Q E hr e0 hb r hsp => ?_⟩
  have hl := len _ _ _ _ hsp
  have KX : K.In s.heap := e0.mod.kin.keeps fun b o e => (e0.bs b o e).1
  have lim : s.heap.NoLimit := e0.mod.nolimit.keeps fun b o e => (e0.bs b o e).1
  have hkind : ∀ y ∈ ps.zip us, scope.names.lookup y.1 = some .local ∨ (scope.names.lookup y.1 = some .cell ∧ ((cellsFrom (s.heap.objs.size + 1) scope.names []).lookup y.1).isSome = true) := fun ⟨n, v⟩ hy => by
    rcases S.par n (List.of_mem_zip hy).1 with q | q
    · exact .inl q
    · exact .inr ⟨q, PySem.W.cellsFrom_some _ _ _ (.inl q)⟩
  refine codeAny_call_function hr.depth (KX _ _ lk) rfl S.co S.gen rfl (PySem.W.codeRec_of KX hcd) (hb _ _ _ _ ?_)
  refine wpAny_newFunctionEnv_cells S.kind hkind fun env he s1 x => ?_
  subst he
  refine ⟨lim.keeps x.toInCall.keep, codeAny_func ?_⟩
  obtain ⟨t, ht, hq⟩ := hbody A outer s H vs Q E (hr.deeper _) hsp
  have I : Inv (cxOf CX P w K mg base N qual scope f cdv A outer s H E) [] (start N vs) H s1 := inv_start S hr.hd e0 hl r x
  refine wpAny_mono (ht [] s1 (start N vs) H _ I hq) (fun fl s' hs => ?_) fun e s' hs => hs
  have fin : ∀ {σ' : St} {H' : Hp} {v : V} {u : Value}, Inv (cxOf CX P w K mg base N qual scope f cdv A outer s H E) [] σ' H' s' → RelV v u → Q v H' → CE outer P w H s Q u s' :=
    fun {σ' H' v u} J rv q => ⟨v, H', J.os, J.bare, J.base, J.hok, rv, q⟩
  cases fl with
  | ret u =>
    obtain ⟨v, σ', H', J, rv, q⟩ := hs
    exact fin J rv q
  | next =>
    obtain ⟨σ', H', J, q⟩ := hs
    exact fin (v := V.non) (u := Value.none) J rfl q
  | brk =>
    obtain ⟨_, _, _, q⟩ := hs
    exact False.elim q
  | cont =>
    obtain ⟨_, _, _, q⟩ := hs
    exact False.elim q
end L2
namespace L2
open PySem PySem.Spec PyProof.Rows
section
variable {X : Cx} {x : Str} {p pos : Pos} {e : Expr} {es : List Expr} {t : TA} {id T : String} {r : List V → Hp → VK → Prop}
def tCB (r : List V → Hp → VK → Prop) (t : TA) : TE := fun σ H Q => t σ H fun vs H1 => r vs H1 Q
theorem pe_callB (hc : CallR X (.builtin id) r) (hg : Gl X x) (hm : X.mg x = none) (hv : bootBuiltins x = some (.builtin id)) (ha : PA X (e :: es) t) (hn : x ≠ "__name__" := by decide) (hdb : (x == ("__debug__" : Str)) = false := by decide)
    (he : starEach (e :: es) X.env = (false, eval e X.env) :: starEach es X.env := by rfl) (hpl : (backTo pos (starEach es X.env)).any (·.1) = false := by rfl) : PE X (.Call (.Name x p) (e :: es) [] pos) (tCB r t) := by
  intro pins s σ H Q I h
  refine wpAny_Call_Name_kw (ld_blt I hg hm hv ?_ hn hdb)
  exact PyProof.Rows.callWith_builtin1 (thn (ha pos pins s σ H _ I h) fun us s1 ⟨vs, H1, I1, r1, q1⟩ => hc pins s1 σ H1 vs us Q I1 r1 q1) he hpl
theorem pe_callTy (hc : CallR X (.type T) r) (hg : Gl X x) (hm : X.mg x = none) (hv : bootBuiltins x = some (.type T)) (ha : PA X (e :: es) t) (hn : x ≠ "__name__" := by decide) (hdb : (x == ("__debug__" : Str)) = false := by decide)
    (he : starEach (e :: es) X.env = (false, eval e X.env) :: starEach es X.env := by rfl) (hpl : (backTo pos (starEach es X.env)).any (·.1) = false := by rfl) : PE X (.Call (.Name x p) (e :: es) [] pos) (tCB r t) := by
  intro pins s σ H Q I h
  refine wpAny_Call_Name_kw (ld_blt I hg hm hv ?_ hn hdb)
  exact PyProof.Rows.callWith_type1 (thn (ha pos pins s σ H _ I h) fun us s1 ⟨vs, H1, I1, r1, q1⟩ => hc pins s1 σ H1 vs us Q I1 r1 q1) he hpl
end
end L2
namespace HT
open PySem PyProof.Rows
section
open PySem.SeqAt
open PySem.AutoSeq1 (wpAny_loadPart')
open PySem.MeetsSeq PySem.MeetsSeq2 PySem.MeetsSeq3
end
section
variable {prog : Program} {w : World} {A : Around} {E : Value → Shared → Prop} {s : Shared}
def sIx (n d : Nat) : Option Int → Nat
  | none => d
  | some v => if v < 0 then (v + (n : Int)).toNat else min v.toNat n
theorem sIx_nat (n d k : Nat) : sIx n d (some (k : Int)) = min k n := by
  show (if (k : Int) < 0 then ((k : Int) + (n : Int)).toNat else min (k : Int).toNat n) = min k n
  rw [if_neg (by omega), Int.toNat_natCast]
end
end HT
namespace L2
open PySem PySem.Spec PyProof.Rows
abbrev TO := St → Hp → (Option Int → Hp → Prop) → Prop
def PO (X : Cx) (e : Option Expr) (t : TO) : Prop :=
  ∀ (pins : List (Addr × Obj)) (s : Shared) (σ : St) (H : Hp) (Q : Option Int → Hp → Prop), Inv X pins σ H s → t σ H Q →
    wpAny (model X.prog X.w) X.A (evalPart e X.env) (fun u s' => ∃ o H', Inv X pins σ H' s' ∧ IsPart u o ∧ Q o H') X.xe s
def tNoPart : TO := fun _ H Q => Q none H
def tPart (t : TE) : TO := fun σ H Q => t σ H fun x H1 => ∃ i, x = .int i ∧ Q (some i) H1
section
variable {X : Cx} {e : Expr} {te : TE} {lo hi : Option Expr} {tl th : TO} {pos p2 : Pos}
theorem po_none : PO X none tNoPart := by
  intro pins s σ H Q I h
  rw [evalPart_none]
  exact wpAny_pure ⟨none, H, I, .none, h⟩
theorem po_some (h : PE X e te) : PO X (some e) (tPart te) := by
  intro pins s σ H Q I hw
  rw [evalPart_some]
  refine thn (h pins s σ H _ I hw) fun u s1 ⟨x, H1, I1, r1, q1⟩ => ?_
  obtain ⟨i, rfl, q⟩ := q1
  obtain ⟨t, rfl⟩ := r1
  exact ⟨some i, H1, I1, .int i t, q⟩
def SlR (X : Cx) (r : V → Option Int → Option Int → Hp → VK → Prop) : Prop :=
  ∀ (pins : List (Addr × Obj)) (s : Shared) (σ : St) (H : Hp) (x : V) (v vl vu : Value) (lo hi : Option Int) (sl : Addr) (Q : VK), Inv X pins σ H s → RelV x v → s.heap.IsSliceOf sl vl vu .none → IsPart vl lo → IsPart vu hi → r x lo hi H Q →
    ∃ T id, typeLookup (.type T) "__getitem__" = pure (some (.builtin id)) ∧ s.TypeIs v T ∧ wpAny (model X.prog X.w) X.A (getItem v (.ref sl)) (EP X pins σ Q) X.xe s
def tSl (r : V → Option Int → Option Int → Hp → VK → Prop) (te : TE) (tl th : TO) : TE := fun σ H Q => te σ H fun x H1 => tl σ H1 fun l H2 => th σ H2 fun u H3 => r x l u H3 Q
theorem pe_slice {r : V → Option Int → Option Int → Hp → VK → Prop} (hr : SlR X r) (he : PE X e te) (hl : PO X lo tl) (hu : PO X hi th) : PE X (.Subscript e (.Slice lo hi none p2) pos) (tSl r te tl th) := by
  intro pins s σ H Q I h
  refine Subscript_ (thn (he pins s σ H _ I h) fun v s1 ⟨x, H1, I1, r1, q1⟩ => ?_)
  refine wpAny_Slice (thn (hl pins s1 σ H1 _ I1 q1) fun vl s2 ⟨l, H2, I2, pl, q2⟩ => thn (hu pins s2 σ H2 _ I2 q2) fun vu s3 ⟨u, H3, I3, pu, q3⟩ => ?_)
  rw [evalPart_none]
  refine wpAny_pure ?_
  have I4 : Inv X pins σ H3 { s3 with heap := s3.heap.push { cls := .type "slice", data := .fields #[vl, vu, .none] } } := I3.kept (t' := s3.toks) fun b ob q => Heap.get?_push_of_some _ q
  obtain ⟨T, id, hT, ht, hg⟩ := hr pins { s3 with heap := s3.heap.push { cls := .type "slice", data := .fields #[vl, vu, .none] } } σ H3 x v vl vu l u s3.heap.objs.size Q I4 r1 (Heap.IsSliceOf.new ..) pl pu q3
  show wpAny (model X.prog X.w) X.A (subscriptTail e (.Slice lo hi none p2) v (.ref s3.heap.objs.size)) (EP X pins σ Q) X.xe { s3 with heap := s3.heap.push { cls := .type "slice", data := .fields #[vl, vu, .none] } }
  exact tail_any (ops := [.ref s3.heap.objs.size, v]) ht hT hg (by with_unfolding_all rfl)
def cutV (xs : List V) (lo hi : Option Int) : List V := (xs.drop (HT.sIx xs.length 0 lo)).take (HT.sIx xs.length xs.length hi - HT.sIx xs.length 0 lo)
theorem cutV_length (xs : List V) (lo hi : Option Int) : (cutV xs lo hi).length ≤ xs.length := by
  unfold cutV
  rw [List.length_take, List.length_drop]
  omega
end
end L2
namespace L2
open PySem PySem.Spec PyProof.Rows
def ixN (n : Nat) (i : Int) : Option Nat := if 0 ≤ i then (if i < n then some i.toNat else none) else if -(n : Int) ≤ i then some (i + n).toNat else none
def atI {α : Type} (xs : List α) (i : Int) : Option α := (ixN xs.length i).bind fun j => xs[j]?
theorem ixN_seq {n : Nat} {i : Int} {j : Nat} (h : ixN n i = some j) : seqIndex? i n = some j ∧ j < n ∧ -(n : Int) ≤ i ∧ i < n := by
  unfold ixN at h
  by_cases h0 : 0 ≤ i
  · rw [if_pos h0] at h
    by_cases h1 : i < n
    · rw [if_pos h1] at h
      have e : i.toNat = j := Option.some.inj h
      exact ⟨by rw [seqIndex_of h0 h1, e], by omega, by omega, h1⟩
    · rw [if_neg h1] at h; cases h
  · rw [if_neg h0] at h
    by_cases h1 : -(n : Int) ≤ i
    · rw [if_pos h1] at h
      have e : (i + n).toNat = j := Option.some.inj h
      exact ⟨by rw [seqIndex_neg (by omega) h1, e], by omega, h1, by omega⟩
    · rw [if_neg h1] at h; cases h
theorem atI_get {α : Type} {xs : List α} {i : Int} {v : α} (h : atI xs i = some v) : ∃ j, seqIndex? i xs.length = some j ∧ xs[j]? = some v ∧ j < xs.length ∧ -(xs.length : Int) ≤ i ∧ i < xs.length := by
  unfold atI at h
  cases e : ixN xs.length i with
  | none => rw [e] at h; cases h
  | some j =>
    rw [e] at h
    obtain ⟨h1, h2, h3, h4⟩ := ixN_seq e
    exact ⟨j, h1, h, h2, h3, h4⟩
theorem atI_nat {α : Type} {xs : List α} {j : Nat} {v : α} (h : xs[j]? = some v) : atI xs (j : Int) = some v := by
  have hj : j < xs.length := (List.getElem?_eq_some_iff.mp h).1
  have e : ixN xs.length (j : Int) = some j := by
    unfold ixN
    rw [if_pos (by omega), if_pos (by omega)]; simp
  unfold atI; rw [e]; exact h
theorem atI_last {α : Type} (xs : List α) (v : α) : atI (xs ++ [v]) (-1) = some v := by
  have hl : (xs ++ [v]).length = xs.length + 1 := by simp
  have e : ixN (xs ++ [v]).length (-1) = some xs.length := by
    unfold ixN
    rw [hl, if_neg (by decide), if_pos (by omega)]
    congr 1
    omega
  unfold atI
  rw [e]
  show (xs ++ [v])[xs.length]? = some v
  simp
def PlainIx (b : Expr) : Prop := ∀ o i, subscripted b false o i = operate [o, i] (getItem o i)
def IxR (X : Cx) (r : R2) : Prop :=
  ∀ (value slice : Expr) (pins : List (Addr × Obj)) (s : Shared) (σ : St) (H : Hp) (x y : V) (v u : Value) (Q : VK), Inv X pins σ H s → RelV x v → RelV y u → r x y H Q →
    subscripted slice false v u = operate [v, u] (getItem v u) → wpAny (model X.prog X.w) X.A (subscriptTail value slice v u) (EP X pins σ Q) X.xe s
def MtR (X : Cx) (id : String) (r : V → List V → Hp → VK → Prop) : Prop :=
  ∀ (pins : List (Addr × Obj)) (s : Shared) (σ : St) (H : Hp) (x : V) (xs : List V) (v : Value) (us : List Value) (Q : VK), Inv X pins σ H s → RelV x v → Vals xs us → r x xs H Q →
    wpAny (model X.prog X.w) X.A (call (.builtin id) (v :: us)) (EP X pins σ Q) X.xe s
section
variable {X : Cx} {a b : Expr} {ta tb : TE} {pos : Pos}
theorem pe_ix {r : R2} (hr : IxR X r) (ha : PE X a ta) (hb : PE X b tb) (hs : PlainIx b) : PE X (.Subscript a b pos) (tOp r ta tb) := by
  intro pins s σ H Q I h
  exact Subscript_ (binT ha hb I h fun v u s2 x y H2 I2 rx ry q => hr a b pins s2 σ H2 x y v u Q I2 rx ry q (hs _ _))
def rIxL (K : PySem.W.Frag) : R2 := fun x y H Q => ∃ p xs i v, x = .ref p ∧ y = .int i ∧ SqL K H p xs ∧ atI xs i = some v ∧ Q v H
def rIxT (K : PySem.W.Frag) : R2 := fun x y H Q => ∃ p xs i v, x = .ref p ∧ y = .int i ∧ SqT K H p xs ∧ atI xs i = some v ∧ Q v H
theorem ix_list : IxR X (rIxL X.K) := by
  intro value slice pins s σ H x y v u Q I rx ry h hs
  obtain ⟨p, xs, i, z, rfl, rfl, hq, he, q⟩ := h
  cases rx
  obtain ⟨t, rfl⟩ := ry
  obtain ⟨its, r, pl, hz⟩ := I.list hq
  obtain ⟨j, h1, h2, h3, h4, h5⟩ := atI_get he
  obtain ⟨w, ew, rw'⟩ := r.get h2
  have hl := r.length
  have hn := line63
  have fin : EP X pins σ Q w s := ⟨z, H, I, rw', q⟩
  by_cases h0 : 0 ≤ i
  · have hj : i.toNat = j := by
      rw [seqIndex_of h0 h5] at h1
      exact Option.some.inj h1
    exact item_listR pl.isList h0 (by omega) (by rw [hj]; simpa using ew) fin hs
  · have hj : (i + (its.toArray.size : Int)).toNat = j := by
      rw [seqIndex_neg (by omega) h4] at h1
      rw [List.size_toArray, ← hl]
      exact Option.some.inj h1
    exact subscriptTail_builtinR (x := w) pl.isList.typeIs slot_list_getitem.lookup
      (wpAny_getItem_list_neg (Q := fun r s' => r = w ∧ EP X pins σ Q r s') pl.isList (by omega) (by rw [List.size_toArray] <;> omega) (by omega) (by rw [hj]; simpa using ew) ⟨rfl, fin⟩) hs
theorem ix_tup : IxR X (rIxT X.K) := by
  intro value slice pins s σ H x y v u Q I rx ry h hs
  obtain ⟨p, xs, i, z, rfl, rfl, hq, he, q⟩ := h
  cases rx
  obtain ⟨t, rfl⟩ := ry
  obtain ⟨its, r, pl, hz⟩ := I.tuple hq
  obtain ⟨j, h1, h2, h3, h4, h5⟩ := atI_get he
  obtain ⟨w, ew, rw'⟩ := r.get h2
  have hl := r.length
  have hn := line63
  have fin : EP X pins σ Q w s := ⟨z, H, I, rw', q⟩
  exact subscriptTail_builtinR (x := w) pl.typeIs slot_tuple_getitem.lookup
    (getItem_tuple (j := j) (Q := fun r s' => r = w ∧ EP X pins σ Q r s') pl (by omega) (by omega) (by rw [List.size_toArray, ← hl]; exact h1) (by simpa using ew) ⟨rfl, fin⟩) hs
theorem slice_bounds (lo hi : Option Int) (n : Nat) : (sliceBounds lo hi none n).1 = ((HT.sIx n 0 lo : Nat) : Int) ∧ (sliceBounds lo hi none n).2.1 = ((HT.sIx n n hi : Nat) : Int) ∧ (sliceBounds lo hi none n).2.2 = 1 := by
  refine ⟨?_, ?_, rfl⟩
  · cases lo with
    | none => simp [sliceBounds, HT.sIx]
    | some i =>
      simp only [sliceBounds, HT.sIx, Option.getD_none, show (1 : Int) > 0 by decide, if_true]
      by_cases h : i < 0
      · simp only [h, if_true] <;> omega
      · simp only [h, if_false] <;> omega
  · cases hi with
    | none => simp [sliceBounds, HT.sIx]
    | some i =>
      simp only [sliceBounds, HT.sIx, Option.getD_none, show (1 : Int) > 0 by decide, if_true]
      by_cases h : i < 0
      · simp only [h, if_true] <;> omega
      · simp only [h, if_false] <;> omega
theorem slicePick_cut (its : List Value) (lo hi : Option Int) : slicePick its.toArray lo hi none = ((its.drop (HT.sIx its.length 0 lo)).take (HT.sIx its.length its.length hi - HT.sIx its.length 0 lo)).toArray := by
  obtain ⟨h1, h2, h3⟩ := slice_bounds lo hi its.toArray.size
  unfold slicePick
  rw [h1, h2, h3]
  simp only [sliceRange_one, pick_run, List.size_toArray] <;> rfl
def rSlL (K : PySem.W.Frag) : V → Option Int → Option Int → Hp → VK → Prop := fun x lo hi H Q => ∃ a xs, x = .ref a ∧ SqL K H a xs ∧ ∀ p, H p = none → Q (.ref p) (upd H p (.lst (cutV xs lo hi)))
theorem sl_list : SlR X (rSlL X.K) := by
  intro pins s σ H x v vl vu lo hi sl Q I rx hs pl pu h
  obtain ⟨a, xs, rfl, hx, q⟩ := h
  cases rx
  obtain ⟨its, r, ht, hz⟩ := I.list hx
  have hlen := r.length
  refine ⟨"list", _, slot_list_getitem.lookup, ht.isList.typeIs, ?_⟩
  refine wpAny_getItem_list_slice ht.isList hs pl pu .none (by simp) ?_ (by rw [List.size_toArray] <;> omega)
  rw [slicePick_cut, ← hlen]
  refine ⟨.ref s.heap.objs.size, _, I.laid (t' := s.toks) (o := .lst (cutV xs lo hi)) (fun b ob q => Heap.get?_push_of_some _ q) (Nat.le_refl _) ?_, rfl, q _ (I.hok.fresh (Nat.le_refl _))⟩
  exact ⟨Nat.le_trans (cutV_length xs lo hi) hz, _, 0, (r.drop (HT.sIx xs.length 0 lo)).take (HT.sIx xs.length xs.length hi - HT.sIx xs.length 0 lo), Heap.get?_push_size _ rfl⟩
def flatV : V → Bool
  | .non => true
  | .bl _ => true
  | .int _ => true
  | .str _ => true
  | _ => false
def eqV : V → V → Bool
  | .non, .non => true
  | .bl a, .bl b => a == b
  | .bl a, .int b => (if a then 1 else 0) == b
  | .int a, .bl b => a == (if b then 1 else 0)
  | .int a, .int b => a == b
  | .str a, .str b => a == b
  | _, _ => false
theorem eqAt_V {A : Around} {s : Shared} {y x : V} {u v : Value} (ry : RelV y u) (rx : RelV x v) (fy : flatV y = true) (fx : flatV x = true) : SeqAt.EqAt A s u v (eqV y x) := by
  cases y with
  | non =>
    cases ry
    cases x with
    | non => cases rx; exact SeqAt.EqAt.same _
    | bl b => cases rx; exact SeqAt.EqAt.none_bool b
    | int b => obtain ⟨t, rfl⟩ := rx; exact SeqAt.EqAt.none_int b t
    | str b => obtain ⟨t, rfl⟩ := rx; exact SeqAt.EqAt.none_str b t
    | _ => exact absurd (show false = true from fx) Bool.false_ne_true
  | bl a =>
    cases ry
    cases x with
    | non => cases rx; exact SeqAt.EqAt.bool_none a
    | bl b => cases rx; exact SeqAt.EqAt.bool_bool a b
    | int b => obtain ⟨t, rfl⟩ := rx; exact SeqAt.EqAt.bool_int a b t
    | str b => obtain ⟨t, rfl⟩ := rx; exact SeqAt.EqAt.bool_str a b t
    | _ => exact absurd (show false = true from fx) Bool.false_ne_true
  | int a =>
    obtain ⟨t', rfl⟩ := ry
    cases x with
    | non => cases rx; exact SeqAt.EqAt.int_none a t'
    | bl b => cases rx; exact SeqAt.EqAt.int_bool a t' b
    | int b => obtain ⟨t, rfl⟩ := rx; exact SeqAt.EqAt.int_int a t' b t
    | str b => obtain ⟨t, rfl⟩ := rx; exact SeqAt.EqAt.int_str a t' b t
    | _ => exact absurd (show false = true from fx) Bool.false_ne_true
  | str a =>
    obtain ⟨t', rfl⟩ := ry
    cases x with
    | non => cases rx; exact SeqAt.EqAt.str_none a t'
    | bl b => cases rx; exact SeqAt.EqAt.str_bool a t' b
    | int b => obtain ⟨t, rfl⟩ := rx; exact SeqAt.EqAt.str_int a t' b t
    | str b => obtain ⟨t, rfl⟩ := rx; exact SeqAt.EqAt.str_str a t' b t
    | _ => exact absurd (show false = true from fx) Bool.false_ne_true
  | _ => exact absurd (show false = true from fy) Bool.false_ne_true
def eqU (x : V) (u : Value) : Bool := match u with
  | .none => eqV .non x
  | .bool b => eqV (.bl b) x
  | .int i _ => eqV (.int i) x
  | .str z _ => eqV (.str z) x
  | _ => false
theorem eqU_of {x y : V} {u : Value} (r : RelV y u) (f : flatV y = true) : eqU x u = eqV y x := by
  cases y with
  | non => cases r; rfl
  | bl b => cases r; rfl
  | int i => obtain ⟨t, rfl⟩ := r; rfl
  | str z => obtain ⟨t, rfl⟩ := r; rfl
  | _ => exact absurd (show false = true from f) Bool.false_ne_true
theorem any_eqU {x : V} : ∀ {xs : List V} {us : List Value}, Vals xs us → xs.all flatV = true → us.any (eqU x) = xs.any fun y => eqV y x
  | _, _, .nil, _ => rfl
  | y :: xs, u :: us, .cons r t, f => by
    rw [List.all_cons, Bool.and_eq_true] at f
    rw [List.any_cons, List.any_cons, eqU_of r f.1, any_eqU t f.2]
theorem mem_eqAt {A : Around} {s : Shared} {x : V} {v : Value} (rx : RelV x v) (fx : flatV x = true) : ∀ {xs : List V} {us : List Value}, Vals xs us → xs.all flatV = true → ∀ u ∈ us, SeqAt.EqAt A s u v (eqU x u)
  | _, _, .nil, _ => fun u hu => by cases hu
  | y :: xs, u :: us, .cons r t, f => fun u' hu => by
    rw [List.all_cons, Bool.and_eq_true] at f
    rcases List.mem_cons.mp hu with rfl | hu
    · rw [eqU_of r f.1]; exact eqAt_V r rx f.1 fx
    · exact mem_eqAt rx fx t f.2 u' hu
def inV (x : V) (xs : List V) : Bool := xs.any fun y => eqV y x
def rIn (K : PySem.W.Frag) (neg : Bool) : R2 := fun x y H Q => ∃ p xs, y = .ref p ∧ (SqL K H p xs ∨ SqT K H p xs) ∧ flatV x = true ∧ xs.all flatV = true ∧ Q (.bl (if neg then !inV x xs else inV x xs)) H
theorem op_in_seq : OpR X (compareOp .In) (rIn X.K false) := by
  intro pins s σ H x y v u Q I rx ry h
  obtain ⟨p, xs, rfl, hq, fx, fs, q⟩ := h
  cases ry
  rcases hq with hq | hq
  · obtain ⟨its, r, pl, hz⟩ := I.list hq
    refine SeqAt.in_listAt (eqU x) pl.isList (fun w hw => mem_eqAt rx fx r fs w (by simpa using hw)) ⟨.bl _, H, I, rfl, ?_⟩
    rw [show its.toArray.any (eqU x) = its.any (eqU x) by simp, any_eqU r fs]
    exact q
  · obtain ⟨its, r, pl, hz⟩ := I.tuple hq
    refine SeqAt.in_tupleAt (eqU x) pl (fun w hw => mem_eqAt rx fx r fs w (by simpa using hw)) ⟨.bl _, H, I, rfl, ?_⟩
    rw [show its.toArray.any (eqU x) = its.any (eqU x) by simp, any_eqU r fs]
    exact q
theorem call_len_seq : CallR X (.builtin "len") (fun xs H Q => ∃ p ys, xs = [.ref p] ∧ (SqL X.K H p ys ∨ SqT X.K H p ys) ∧ Q (.int ys.length) H) := by
  intro pins s σ H xs us Q I r h
  obtain ⟨p, ys, rfl, hq, q⟩ := h
  obtain ⟨u, rfl, rx⟩ := vals1 r
  cases rx
  have hn := line63
  rcases hq with hq | hq
  · obtain ⟨its, r', pl, hz⟩ := I.list hq
    have hlen := r'.length
    exact Calls.call_len_list pl.isList (by simp only [List.size_toArray] <;> omega) ⟨.int ys.length, H, I.tok _, ⟨s.toks + 1, by rw [List.size_toArray, hlen]⟩, q⟩
  · obtain ⟨its, r', pl, hz⟩ := I.tuple hq
    have hlen := r'.length
    exact len_tuple pl (by simp only [List.size_toArray] <;> omega) ⟨.int ys.length, H, I.tok _, ⟨s.toks + 1, by rw [List.size_toArray, hlen]⟩, q⟩
theorem call_list_of : CallR X (.type "list") (fun xs H Q => ∃ p ys, xs = [.ref p] ∧ (SqL X.K H p ys ∨ SqT X.K H p ys) ∧ ∀ l, H l = none → Q (.ref l) (upd H l (.lst ys))) := by
  intro pins s σ H xs us Q I r h
  obtain ⟨p, ys, rfl, hq, q⟩ := h
  obtain ⟨u, rfl, rx⟩ := vals1 r
  cases rx
  have fin : ∀ (its : List Value), Vals ys its → ys.length ≤ sizeLine → ∀ (h' : Heap) (c' : Nat), (∀ b o', s.heap.get? b = some o' → h'.get? b = some o') →
      h'.get? s.heap.objs.size = some { cls := .type "list", dict := none, data := .seq its.toArray c', slots := #[] } → EP X pins σ Q (.ref s.heap.objs.size) { s with heap := h' } := fun its r' hz h' c' kp e =>
    ⟨.ref s.heap.objs.size, _, I.laid (t' := s.toks) kp (Nat.le_refl _) (show ObjOk X.prog X.w _ h' _ (.lst ys) from ⟨hz, its, c', r', e⟩), rfl, q _ (I.hok.fresh (Nat.le_refl _))⟩
  rcases hq with hq | hq
  · obtain ⟨its, r', pl, hz⟩ := I.list hq
    have hlen := r'.length
    obtain ⟨o, ho, hc, n, hd⟩ := pl.isList
    exact call_list_seq p (.inl rfl) ho hc hd (fun h' c' kp e => fin its r' hz h' c' kp e) (by simp only [List.size_toArray] <;> omega)
  · obtain ⟨its, r', pl, hz⟩ := I.tuple hq
    have hlen := r'.length
    obtain ⟨o, ho, hc, n, hd⟩ := pl
    exact call_list_seq p (.inr rfl) ho hc hd (fun h' c' kp e => fin its r' hz h' c' kp e) (by simp only [List.size_toArray] <;> omega)
theorem call_tuple_of : CallR X (.type "tuple") (fun xs H Q => ∃ p ys, xs = [.ref p] ∧ ((SqL X.K H p ys ∧ ∀ l, H l = none → Q (.ref l) (upd H l (.tup ys))) ∨ (SqT X.K H p ys ∧ Q (.ref p) H))) := by
  intro pins s σ H xs us Q I r h
  obtain ⟨p, ys, rfl, h⟩ := h
  obtain ⟨u, rfl, rx⟩ := vals1 r
  cases rx
  rcases h with ⟨hq, q⟩ | ⟨hq, q⟩
  · obtain ⟨its, r', pl, hz⟩ := I.list hq
    have hlen := r'.length
    refine call_tuple_list pl.isList (fun h' kp => ?_) (by simp only [List.size_toArray] <;> omega)
    have I1 : Inv X pins σ H { s with heap := h' } := I.kept (t' := s.toks) kp
    have I2 : Inv X pins σ (upd H h'.objs.size (.tup ys)) { s with heap := h'.push { cls := .type "tuple", data := .seq its.toArray } } :=
      I1.laid (t' := s.toks) (fun b o e => Heap.get?_push_of_some _ e) (Nat.le_refl _) (show ObjOk X.prog X.w _ _ _ (.tup ys) from ⟨hz, its, r', IsTup.new _ _⟩)
    exact ⟨.ref h'.objs.size, _, I2, rfl, q _ (I1.hok.fresh (Nat.le_refl _))⟩
  · obtain ⟨its, r', pl, hz⟩ := I.tuple hq
    exact call_tuple_same pl ⟨.ref p, H, I, rfl, q⟩
def tyV (K : PySem.W.Frag) (T : String) (x : V) (H : Hp) : Prop := match x with
  | .str _ => T = "str"
  | .int _ => T = "int"
  | .ref p => (T = "list" ∧ ∃ xs, SqL K H p xs) ∨ (T = "tuple" ∧ ∃ o, K.lookup p = some o ∧ o.cls = .type "tuple" ∧ o.dict = none) ∨
      (T = "dict" ∧ ((∃ kvs, H p = some (.dK kvs)) ∨ ∃ kvs, H p = some (.dT kvs))) ∨ (T = "set" ∧ ∃ S n, H p = some (.set S n))
  | _ => False
theorem tyV_is {pins : List (Addr × Obj)} {σ : St} {H : Hp} {s : Shared} {T : String} {x : V} {v : Value} (I : Inv X pins σ H s) (r : RelV x v) (ty : tyV X.K T x H) :
    s.TypeIs v T ∧ ∀ a, v = .ref a → ∃ ob, s.heap.get? a = some ob ∧ ob.dict = none := by
  cases x with
  | str z =>
    obtain ⟨t, rfl⟩ := r
    cases (show T = "str" from ty)
    exact ⟨typeIs_str s z t, fun _ e => nomatch e⟩
  | int i =>
    obtain ⟨t, rfl⟩ := r
    cases (show T = "int" from ty)
    exact ⟨typeIs_int s i t, fun _ e => nomatch e⟩
  | ref p =>
    cases r
    rcases ty with ⟨rfl, xs, hq⟩ | ⟨rfl, o, hk, hc, hd⟩ | ⟨rfl, hk⟩ | ⟨rfl, S, n, hk⟩
    · obtain ⟨its, _, pl, _⟩ := I.list hq
      refine ⟨pl.isList.typeIs, fun a e => ?_⟩
      cases e
      obtain ⟨o, n, e, c, hd, _⟩ := pl
      exact ⟨o, e, hd⟩
    · refine ⟨⟨o, I.kIn p o hk, hc⟩, fun a e => ?_⟩
      cases e
      exact ⟨o, I.kIn _ o hk, hd⟩
    · have z : ∃ o, s.heap.get? p = some o ∧ o.ExactDict := by
        rcases hk with ⟨kvs, hk⟩ | ⟨kvs, hk⟩
        · obtain ⟨_, _, _, _, o, _, _, e, ex, _⟩ := I.hok p _ hk
          exact ⟨o, e, ex⟩
        · obtain ⟨_, _, _, _, o, _, _, e, ex, _⟩ := I.hok p _ hk
          exact ⟨o, e, ex⟩
      obtain ⟨o, e, ex⟩ := z
      refine ⟨⟨o, e, ex.1⟩, fun a e2 => ?_⟩
      cases e2
      exact ⟨o, e, ex.2.1⟩
    · obtain ⟨o, _, _, _, e, ex, _⟩ := I.hok p _ hk
      refine ⟨⟨o, e, ex.1⟩, fun a e2 => ?_⟩
      cases e2
      exact ⟨o, e, ex.2.1⟩
  | _ => exact False.elim ty
def tBM (K : PySem.W.Frag) (T : String) (r : V → List V → Hp → VK → Prop) (to : TE) (t : TA) : TE := fun σ H Q => to σ H fun x H1 => tyV K T x H1 ∧ t σ H1 fun xs H2 => r x xs H2 Q
variable {o e : Expr} {es : List Expr} {to : TE} {t : TA} {name : Str} {apos cpos : Pos} {T id : String} {r : V → List V → Hp → VK → Prop}
theorem pe_bm (pa : PlainAttrs T) (slot : Slot T name id) (hty : typeOf (.builtin id) = pure (.type "method_descriptor")) (hm : MtR X id r) (ho : PE X o to) (ha : PA X (e :: es) t)
    (hbase : attributeBase o name X.env (eval o X.env) = eval o X.env := by rfl)
    (hfew : ((backTo cpos (starEach (e :: es) X.env)).all (fun x => !x.1) && (backToKw cpos (keywordEach [] X.env)).all (fun x => x.1.isSome)
      && decide ((e :: es).length + ([] : List Keyword).length + (if ([] : List Keyword).isEmpty then 0 else 1) < 30)) = true := by rfl)
    (hline : (apos.endLine == cpos.line) = true := by rfl) (hs : starEach (e :: es) X.env = (false, eval e X.env) :: starEach es X.env := by rfl) (hplain : (backTo cpos (starEach es X.env)).any (·.1) = false := by rfl) :
    PE X (.Call (.Attribute o name apos) (e :: es) [] cpos) (tBM X.K T r to t) := by
  intro pins s σ H Q I h
  refine wpAny_Call_method_late hbase hfew hline rfl (thn (ho pins s σ H _ I h) fun v s1 ⟨x, H1, I1, r1, ty, q1⟩ => ?_)
  obtain ⟨h1, h2⟩ := tyV_is I1 r1 ty
  refine ⟨T, id, pa, slot, hty, h1, h2, ?_⟩
  have hA := ha cpos pins s1 σ H1 _ I1 q1
  rw [hs] at hA ⊢
  refine Calls.callWith_builtin (by show (false || (backTo cpos (starEach es X.env)).any (·.1)) = false; rw [hplain] <;> rfl) (Calls.evalArgs_plain ?_)
  exact thn hA fun us s2 ⟨vs, H2, I2, r2, q2⟩ => hm pins s2 σ H2 x vs v us Q I2 r1 r2 q2
end
end L2
namespace L2
open PySem PySem.Spec PyProof.Rows
def MtM (X : Cx) (id : String) (r : V → List V → Hp → VK → Prop) : Prop :=
  ∀ (pins : List (Addr × Obj)) (s : Shared) (σ : St) (H : Hp) (x : V) (xs : List V) (v : Value) (us : List Value) (Q : VK), Inv X pins σ H s → RelV x v → Vals xs us → r x xs H Q →
    wpAny (model X.prog X.w) X.A (call (.builtin id) (v :: us)) (EP X pins σ Q) X.xe s
theorem Vals.one : ∀ {x : V} {us : List Value}, Vals [x] us → ∃ u, us = [u] ∧ RelV x u
  | _, _, .cons r .nil => ⟨_, rfl, r⟩
section
variable {X : Cx} {pins : List (Addr × Obj)} {σ : St} {H : Hp} {s : Shared} {l b : Addr} {xs ys zs : List V}
theorem Inv.lset {its its' : List Value} {n : Nat} {f : Array Value → Array Value} {t' : Nat} (I : Inv X pins σ H s) (hH : H l = some (.lst xs))
    (e : s.heap.get? l = some { cls := .type "list", data := .seq its.toArray n }) (hf : f its.toArray = its'.toArray) (hv : Vals ys its') (hz : ys.length ≤ sizeLine) :
    Inv X pins σ (upd H l (.lst ys)) { s with heap := s.heap.update l (Obj.mapSeq f), toks := t' } := by
  have q := PySem.IsL.update e f
  rw [hf] at q
  refine I.write (x := l) (e := l) (by rw [hH]; exact trivial) (.inl rfl) (fun b' u hb hu => (Heap.get?_update_other s.heap (Obj.mapSeq f) (Ne.symm hb)).trans hu) ⟨_, q⟩ ?_
  exact ⟨hz, its', _, hv, q⟩
theorem Inv.lnew {its : List Value} {t' : Nat} (I : Inv X pins σ H s) (hv : Vals ys its) (hz : ys.length ≤ sizeLine) :
    Inv X pins σ (upd H s.heap.objs.size (.lst ys)) { s with heap := s.heap.push { cls := .type "list", data := .seq its.toArray }, toks := t' } :=
  I.laid (fun _ _ q => Heap.get?_push_of_some _ q) (Nat.le_refl _) ⟨hz, its, 0, hv, Heap.get?_push_size _ rfl⟩
theorem Inv.fresh (I : Inv X pins σ H s) : H s.heap.objs.size = none := I.hok.fresh (Nat.le_refl _)
theorem Inv.lstM (I : Inv X pins σ H s) (hH : H l = some (.lst xs)) : xs.length ≤ sizeLine ∧ ∃ (its : List Value) (n : Nat), Vals xs its ∧ xs.length = its.length ∧ s.heap.get? l = some { cls := .type "list", data := .seq its.toArray n } := by
  obtain ⟨z, its, n, r, e⟩ := I.hok l _ hH
  exact ⟨z, its, n, r, r.length, e⟩
theorem notLongL {n : Nat} (h : n ≤ sizeLine) : Builtin.List.listTooLong n = false := by
  unfold Builtin.List.listTooLong
  exact decide_eq_false (by omega)
end
section
variable {X : Cx}
def rAppend : V → List V → Hp → VK → Prop := fun x vs H Q => ∃ l xs y, x = .ref l ∧ vs = [y] ∧ H l = some (.lst xs) ∧ xs.length < sizeLine ∧ Q .non (upd H l (.lst (xs ++ [y])))
theorem mt_append : MtM X "list.append" rAppend := by
  intro pins s σ H x vs v us Q I rx rv h
  obtain ⟨l, xs, y, rfl, rfl, hH, hz, q⟩ := h
  cases rx
  obtain ⟨u, rfl, ru⟩ := rv.one
  obtain ⟨z, its, n, r, hl, e⟩ := I.lstM hH
  refine call_meets F.slot_list_append ⟨_, e, rfl⟩ F.entry_list_append (F.args_list_append_2 _ _) (PySem.list_append l its.toArray n u (by rw [List.size_toArray]; omega)) ⟨e, ?_⟩
  refine ⟨.non, _, I.lset (its' := its ++ [u]) hH e (by simp) (r.append (.cons ru .nil)) ?_, rfl, q⟩
  rw [List.length_append, List.length_singleton]
  omega
def rExtend : V → List V → Hp → VK → Prop := fun x vs H Q => ∃ l b xs zs, x = .ref l ∧ vs = [.ref b] ∧ H l = some (.lst xs) ∧ H b = some (.lst zs) ∧ xs.length + zs.length ≤ sizeLine ∧ Q .non (upd H l (.lst (xs ++ zs)))
theorem mt_extend : MtM X "list.extend" rExtend := by
  intro pins s σ H x vs v us Q I rx rv h
  obtain ⟨l, b, xs, zs, rfl, rfl, hH, hB, hz, q⟩ := h
  cases rx
  obtain ⟨u, rfl, ru⟩ := rv.one
  cases ru
  obtain ⟨z, its, n, r, hl, e⟩ := I.lstM hH
  obtain ⟨z2, its2, n2, r2, hl2, e2⟩ := I.lstM hB
  have hsz : its.toArray.size + its2.toArray.size ≤ sizeLine := by rw [List.size_toArray, List.size_toArray]; omega
  have hlong : ¬ (!its.toArray.isEmpty && Builtin.List.listTooLong (its.toArray.size + its2.toArray.size)) = true := by
    rw [notLongL hsz, Bool.and_false]
    exact Bool.false_ne_true
  refine call_meets F.slot_list_extend ⟨_, e, rfl⟩ F.entry_list_extend (F.args_list_extend_2 _ _)
    (AutoSeq1.list_extend_list_list_0 l its.toArray n b its2.toArray n2 hlong (by rw [List.size_toArray]; omega) (by omega)) ⟨e, e2, ?_⟩
  refine ⟨.non, _, I.lset (its' := its ++ its2) hH e (by simp) (r.append r2) ?_, rfl, q⟩
  rw [List.length_append]
  omega
def rCat : R2 := fun x y H Q => ∃ l b xs zs, x = .ref l ∧ y = .ref b ∧ H l = some (.lst xs) ∧ H b = some (.lst zs) ∧ xs.length + zs.length ≤ sizeLine ∧ ∀ p, H p = none → Q (.ref p) (upd H p (.lst (xs ++ zs)))
theorem op_cat : OpR X (binaryOp .Add) rCat := by
  intro pins s σ H x y v u Q I rx ry h
  obtain ⟨l, b, xs, zs, rfl, rfl, hH, hB, hz, q⟩ := h
  cases rx
  cases ry
  obtain ⟨z, its, n, r, hl, e⟩ := I.lstM hH
  obtain ⟨z2, its2, n2, r2, hl2, e2⟩ := I.lstM hB
  refine PySem.P.add_list e e2 ?_ (by rw [List.size_toArray, List.size_toArray]; omega)
  have ea : its.toArray ++ its2.toArray = (its ++ its2).toArray := by simp
  rw [ea]
  exact ⟨.ref _, _, I.lnew (t' := s.toks) (r.append r2) (by rw [List.length_append]; omega), rfl, q _ I.fresh⟩
end
section
variable {prog : Program} {w : World} {A : Around} {E : Value → Shared → Prop} {s : Shared}
end
section
variable {X : Cx}
end
end L2
namespace L2
open PySem PySem.Spec PyProof.Rows
theorem Vals.ints : ∀ {ns : List Int} {us : List Value}, Vals (ns.map V.int) us → IntsAre us ns
  | [], us, h => by
    rw [List.map_nil] at h
    cases h
    exact IntsAre.nil
  | n :: ns, us, h => by
    rw [List.map_cons] at h
    cases h with
    | cons r t =>
      obtain ⟨k, rfl⟩ := r
      exact IntsAre.cons n k (Vals.ints t)
theorem Vals.bls : ∀ {bs : List Bool} {us : List Value}, Vals (bs.map V.bl) us → us = bs.map Value.bool
  | [], us, h => by
    rw [List.map_nil] at h
    cases h
    rfl
  | b :: bs, us, h => by
    rw [List.map_cons] at h
    cases h with
    | cons r t =>
      cases r
      rw [Vals.bls t, List.map_cons]
theorem Vals.ref1 {a : Addr} {us : List Value} (r : Vals [V.ref a] us) : us = [Value.ref a] := by
  cases r with
  | cons r t =>
    cases t
    cases r
    rfl
section
variable {prog : Program} {w : World} {A : Around} {E : Value → Shared → Prop} {s : Shared} {l : Addr} {its : List Value} {ns : List Int} {Q : Value → Shared → Prop}
theorem sum_raw (hh : A.handled = none) (hl : s.heap.IsList l its.toArray) (hi : IntsAre its ns)
    (h : ∀ h' tk t', (∀ b o, s.heap.get? b = some o → h'.get? b = some o) → Q (.int ns.sum t') { s with heap := h', toks := tk }) : wpAny (model prog w) A (call (.builtin "sum") [.ref l]) Q E s := by
  obtain ⟨xs, e⟩ := hi.allInts.items
  have hn : numsOf (intItems xs).toList = ns := by rw [← e]; exact hi.numsOf
  rw [nums_intItems] at hn
  rw [e] at hl
  refine PySem.sum_intListG hh hl fun h' tk t' hk => ?_
  have := h h' tk t' hk
  rw [preSum_eq, List.take_of_length_le (by simp), hn]; exact this
end
section
variable {X : Cx}
def rSum (K : PySem.W.Frag) : List V → Hp → VK → Prop := fun vs H Q => ∃ (a : Addr) (ns : List Int), vs = [V.ref a] ∧ SqL K H a (ns.map V.int) ∧ Q (.int ns.sum) H
theorem cr_sum (hc : X.calm = true) : CallR X (.builtin "sum") (rSum X.K) := by
  intro pins s σ H vs us Q I r h
  obtain ⟨a, ns, rfl, hs, q⟩ := h
  obtain ⟨its, rv, hl, _⟩ := I.list hs
  rw [Vals.ref1 r]
  exact sum_raw (I.ok.hd hc) hl.isList rv.ints fun h' tk t' hk => ⟨.int _, H, I.kept hk, ⟨_, rfl⟩, q⟩
end
section
variable {X : Cx}
end
section
variable {X : Cx}
end
theorem iter_any {prog : Program} {w : World} {A : Around} {E : Value → Shared → Prop} {s : Shared} {l : Addr} {items : Array Value} {Q : Value → Shared → Prop} (hl : s.heap.IsList l items)
    (h : ∀ s₂ : Shared, s₂ = { s with heap := s.heap.push { cls := .type "list_iterator", data := .fields #[.ref l, .int 0 0] } } →
      (s₂.heap.IsListIter s.heap.objs.size l 0 ∧ s₂.heap.IsList l items) → l ≠ s.heap.objs.size → Q (.ref s.heap.objs.size) s₂) : wpAny (model prog w) A (pyIter (.ref l)) Q E s := by
  have hlt : l < s.heap.objs.size := by obtain ⟨_, e, _⟩ := hl; exact Heap.lt_size e
  exact wpAny_pyIter_list hl (h _ rfl ⟨⟨_, Heap.get?_push_size _ rfl, rfl, rfl⟩, hl.push _⟩ (Nat.ne_of_lt hlt))
theorem truth_bools {prog : Program} {w : World} {A : Around} {bs : List Bool} {its : List Value} (e : its = bs.map Value.bool) :
    TruthOf prog w A (fun i v => its.toArray[i]? = some v) (fun i => bs.getD i false) := fun i v s Q E hv hq => by
  have hv' : its[i]? = some v := by simpa using hv
  rw [e, List.getElem?_map] at hv'
  obtain ⟨b, hb, rfl⟩ := Option.map_eq_some_iff.mp hv'
  have hg : bs.getD i false = b := by rw [List.getD_eq_getElem?_getD, hb] <;> rfl
  have hq' : Q (bs.getD i false) s := hq
  rw [hg] at hq'
  exact wpAny_truthy_bool hq'
theorem all_range : ∀ bs : List Bool, (List.range bs.length).all (fun i => bs.getD i false) = bs.all id
  | [] => rfl
  | b :: bs => by
    rw [List.length_cons, List.range_succ_eq_map, List.all_cons, List.all_map, List.all_cons, ← all_range bs]
    all_goals rfl
section
variable {X : Cx}
def rAll (K : PySem.W.Frag) : List V → Hp → VK → Prop := fun vs H Q => ∃ (a : Addr) (bs : List Bool), vs = [V.ref a] ∧ SqL K H a (bs.map V.bl) ∧ Q (.bl (bs.all id)) H
theorem cr_all (hc : X.calm = true) : CallR X (.builtin "all") (rAll X.K) := by
  intro pins s σ H vs us Q I r h
  obtain ⟨a, bs, rfl, hs, q⟩ := h
  obtain ⟨its, rv, hl, _⟩ := I.list hs
  rw [Vals.ref1 r]
  have hb := rv.bls
  refine call_all_walk (iter_any hl.isList fun s₂ e2 st hne => ?_)
  subst e2
  refine ⟨_, _, _, _, _, _, _, rfl, Walks.list (A := X.A.in1) (I.ok.hd hc) _ a hne its.toArray, st, truth_bools hb, fun h' tk hk => ?_⟩
  refine ⟨.bl _, H, I.kept fun b o eo => hk b o (fun hmem => ?_) (Heap.get?_push_of_some _ eo), ?_, q⟩
  · rcases List.mem_cons.mp hmem with e1 | hmem
    · exact absurd (e1 ▸ Heap.lt_size eo) (Nat.lt_irrefl _)
    · cases hmem
  · show Value.bool _ = Value.bool _
    rw [← all_range, hb, List.size_toArray, List.length_map]
end
mutual
inductive Dp (K : PySem.W.Frag) (H : Hp) : V → PyData → Prop
  | non : Dp K H .non .none
  | bl (b : Bool) : Dp K H (.bl b) (.bool b)
  | int (i : Int) : Dp K H (.int i) (.int i)
  | str (x : Str) : Dp K H (.str x) (.str x)
  | lst {a : Addr} {xs : List V} {ds : List PyData} : SqL K H a xs → DpAll K H xs ds → Dp K H (.ref a) (.list ds)
  | tup {a : Addr} {xs : List V} {ds : List PyData} : SqT K H a xs → DpAll K H xs ds → Dp K H (.ref a) (.tuple ds)
inductive DpAll (K : PySem.W.Frag) (H : Hp) : List V → List PyData → Prop
  | nil : DpAll K H [] []
  | cons {v : V} {vs : List V} {d : PyData} {ds : List PyData} : Dp K H v d → DpAll K H vs ds → DpAll K H (v :: vs) (d :: ds)
end
section
variable {X : Cx} {pins : List (Addr × Obj)} {σ : St} {H : Hp} {s : Shared}
mutual
theorem Dp.reads (I : Inv X pins σ H s) : ∀ (d : PyData) (v : V) (u : Value), Dp X.K H v d → RelV v u → ∃ as, Reads s.heap u d as
  | .none, _, _, h, r => by
    cases h
    cases r
    exact ⟨_, Reads.none⟩
  | .bool b, _, _, h, r => by
    cases h
    cases r
    exact ⟨_, Reads.bool b⟩
  | .int i, _, _, h, r => by
    cases h
    obtain ⟨t, rfl⟩ := r
    exact ⟨_, Reads.int i t⟩
  | .str x, _, _, h, r => by
    cases h
    obtain ⟨t, rfl⟩ := r
    exact ⟨_, Reads.str x t⟩
  | .list ds, _, _, h, r => by
    cases h with
    | lst hs ha =>
      cases r
      obtain ⟨its, rv, ⟨o, n, ho, hc, _, hd⟩, _⟩ := I.list hs
      obtain ⟨as, hr⟩ := Dp.readsAll I ds _ its ha rv
      exact ⟨_, Reads.list ho hc hd hr⟩
  | .tuple ds, _, _, h, r => by
    cases h with
    | tup hs ha =>
      cases r
      obtain ⟨its, rv, ⟨o, ho, hc, n, hd⟩, _⟩ := I.tuple hs
      obtain ⟨as, hr⟩ := Dp.readsAll I ds _ its ha rv
      exact ⟨_, Reads.tuple ho hc hd hr⟩
  | .dict _, _, _, h, _ => by cases h
theorem Dp.readsAll (I : Inv X pins σ H s) : ∀ (ds : List PyData) (vs : List V) (us : List Value), DpAll X.K H vs ds → Vals vs us → ∃ as, ReadsAll s.heap us ds as
  | [], _, _, h, r => by
    cases h
    cases r
    exact ⟨_, ReadsAll.nil⟩
  | d :: ds, _, _, h, r => by
    cases h with
    | cons h1 h2 =>
      cases r with
      | cons r1 r2 =>
        obtain ⟨as, q1⟩ := Dp.reads I d _ _ h1 r1
        obtain ⟨bs, q2⟩ := Dp.readsAll I ds _ _ h2 r2
        exact ⟨_, ReadsAll.cons q1 q2⟩
end
end
section
variable {X : Cx}
def rEqD (K : PySem.W.Frag) : R2 := fun x y H Q => ∃ d e, Dp K H x d ∧ Dp K H y e ∧ SeqAt.shaped d = true ∧ SeqAt.shaped e = true ∧ Q (.bl (PyData.eqv d e)) H
def rNeD (K : PySem.W.Frag) : R2 := fun x y H Q => ∃ d e, Dp K H x d ∧ Dp K H y e ∧ SeqAt.shaped d = true ∧ SeqAt.shaped e = true ∧ Q (.bl (!PyData.eqv d e)) H
theorem op_eqD (hu : X.A.units + 64 < cLine) : OpR X (compareOp .Eq) (rEqD X.K) := by
  intro pins s σ H x y v u Q I rx ry h
  obtain ⟨d, e, hd, he, sd, se, q⟩ := h
  obtain ⟨as, r1⟩ := Dp.reads I d x v hd rx
  obtain ⟨bs, r2⟩ := Dp.reads I e y u he ry
  exact SeqAt.compareEq_shaped r1 r2 sd se hu ⟨.bl _, H, I, rfl, q⟩
theorem op_neD (hu : X.A.units + 64 < cLine) : OpR X (compareOp .NotEq) (rNeD X.K) := by
  intro pins s σ H x y v u Q I rx ry h
  obtain ⟨d, e, hd, he, sd, se, q⟩ := h
  obtain ⟨as, r1⟩ := Dp.reads I d x v hd rx
  obtain ⟨bs, r2⟩ := Dp.reads I e y u he ry
  exact SeqAt.compareNe_shaped r1 r2 sd se hu ⟨.bl _, H, I, rfl, q⟩
end
end L2
namespace L2
open PySem PySem.Spec PyProof.Rows
abbrev CellAt (h : Heap) (c : Addr) (v : Option Value) : Prop := h.IsCell c v
def relS (scope sc : Scope) : Scope :=
  { scope with names := scope.names.map fun (n, k) => if (k == .free && sc.kind == .function && sc.names.lookup n == some .cell) then (n, .cell) else (n, k) }
def cloFrom (cells : List (Str × Addr)) : List (Str × NameKind) → List (Str × Addr) → List (Str × Addr)
  | [], acc => acc
  | (n, k) :: r, acc => if k == .free then cloFrom cells r ((n, (cells.lookup n).getD 0) :: acc) else cloFrom cells r acc
theorem closure_loop (env : Env) (f : Str × NameKind → List (Str × Addr) → Sem (ForInStep (List (Str × Addr))))
    (hf : ∀ n k c, f (n, k) c = if k == .free then (do let a ← cellOf env n; pure (.yield ((n, a) :: c))) else pure (.yield c)) :
    ∀ (names : List (Str × NameKind)) (acc : List (Str × Addr)), (∀ y ∈ names, y.2 = .free → ∃ c, env.cells.lookup y.1 = some c) → forIn names acc f = pure (cloFrom env.cells names acc)
  | [], acc, _ => by rw [List.forIn_nil]; rfl
  | (n, k) :: r, acc, h => by
    rw [List.forIn_cons, hf]
    have ih := fun acc => closure_loop env f hf r acc fun y hy => h y (List.mem_cons_of_mem _ hy)
    unfold cloFrom
    by_cases hk : (k == NameKind.free) = true
    · rw [if_pos hk, if_pos hk]
      obtain ⟨c, hc⟩ := h (n, k) List.mem_cons_self (by simpa using hk)
      have e : cellOf env n = pure c := by unfold cellOf; rw [hc]
      rw [e]
      have e2 : (env.cells.lookup n).getD 0 = c := by rw [hc]; rfl
      rw [e2]
      exact ih _
    · rw [if_neg hk, if_neg hk]
      exact ih _
theorem closure_ok {scope : Scope} {env : Env} (h : ∀ y ∈ scope.names, y.2 = .free → ∃ c, env.cells.lookup y.1 = some c) : closureFor scope env = pure (cloFrom env.cells scope.names []) := by
  simp only [closureFor]
  rw [closure_loop env _ (fun n k c => rfl) scope.names [] h]
  rfl
theorem mem_lookup {α : Type} : ∀ {l : List (Str × α)} {n : Str} {c : α}, (n, c) ∈ l → ∃ c', l.lookup n = some c'
  | (k, v) :: r, n, c, h => by
    rw [List.lookup_cons]
    cases hb : n == k with
    | true => exact ⟨_, rfl⟩
    | false =>
      rcases List.mem_cons.mp h with e | h
      · cases e; simp at hb
      · exact mem_lookup h
theorem cloFrom_mem {cells : List (Str × Addr)} : ∀ {names : List (Str × NameKind)} {acc : List (Str × Addr)} {n : Str} {c : Addr}, (n, c) ∈ cloFrom cells names acc → (n, c) ∈ acc ∨ ((n, .free) ∈ names ∧ c = (cells.lookup n).getD 0)
  | [], _, _, _, h => .inl h
  | (m, k) :: r, acc, n, c, h => by
    unfold cloFrom at h
    split at h
    · rename_i hk
      have hk : k = .free := by simpa using hk
      rcases cloFrom_mem h with h | ⟨h1, h2⟩
      · rcases List.mem_cons.mp h with e | h
        · cases e; exact .inr ⟨hk ▸ List.mem_cons_self, rfl⟩
        · exact .inl h
      · exact .inr ⟨List.mem_cons_of_mem _ h1, h2⟩
    · rcases cloFrom_mem h with h | ⟨h1, h2⟩
      · exact .inl h
      · exact .inr ⟨List.mem_cons_of_mem _ h1, h2⟩
theorem cloFrom_acc {cells : List (Str × Addr)} : ∀ {names : List (Str × NameKind)} {acc : List (Str × Addr)} {p : Str × Addr}, p ∈ acc → p ∈ cloFrom cells names acc
  | [], _, _, h => h
  | (m, k) :: r, acc, p, h => by
    unfold cloFrom
    split
    · exact cloFrom_acc (List.mem_cons_of_mem _ h)
    · exact cloFrom_acc h
theorem cloFrom_has {cells : List (Str × Addr)} : ∀ {names : List (Str × NameKind)} {acc : List (Str × Addr)} {n : Str}, (n, .free) ∈ names → (n, (cells.lookup n).getD 0) ∈ cloFrom cells names acc
  | (m, k) :: r, acc, n, h => by
    unfold cloFrom
    rcases List.mem_cons.mp h with e | h
    · cases e
      exact cloFrom_acc List.mem_cons_self
    · split
      · exact cloFrom_has h
      · exact cloFrom_has h
theorem cells_mem : ∀ {names : List (Str × NameKind)} {h : Heap} {acc : List (Str × Addr)} {x : Str} {c : Addr}, (x, c) ∈ cellsFrom h.objs.size names acc →
    (x, c) ∈ acc ∨ ((x, .cell) ∈ names ∧ h.objs.size ≤ c ∧ CellAt (pushCells h names) c none)
  | [], _, _, _, _, h => .inl h
  | (n, k) :: r, h, acc, x, c, hm => by
    unfold cellsFrom at hm
    unfold pushCells
    split at hm
    · rename_i hk
      rw [if_pos hk]
      have hk : k = .cell := by simpa using hk
      rw [← Heap.size_push h { cls := .type "cell", data := .cell none }] at hm
      rcases cells_mem hm with hm | ⟨h1, h2, h3⟩
      · rcases List.mem_cons.mp hm with e | hm
        · cases e
          exact .inr ⟨hk ▸ List.mem_cons_self, Nat.le_refl _, _, pushCells_keeps r _ _ _ (Heap.get?_push_size _ rfl), rfl⟩
        · exact .inl hm
      · rw [Heap.size_push] at h2
        exact .inr ⟨List.mem_cons_of_mem _ h1, Nat.le_of_succ_le h2, h3⟩
    · rename_i hk
      rw [if_neg hk]
      rcases cells_mem hm with hm | ⟨h1, h2, h3⟩
      · exact .inl hm
      · exact .inr ⟨List.mem_cons_of_mem _ h1, h2, h3⟩
theorem cells_acc : ∀ {names : List (Str × NameKind)} {n : Nat} {acc : List (Str × Addr)} {p : Str × Addr}, p ∈ acc → p ∈ cellsFrom n names acc
  | [], _, _, _, h => h
  | (m, k) :: r, n, acc, p, h => by
    unfold cellsFrom
    split
    · exact cells_acc (List.mem_cons_of_mem _ h)
    · exact cells_acc h
theorem cells_has : ∀ {names : List (Str × NameKind)} {n : Nat} {acc : List (Str × Addr)} {x : Str}, (x, .cell) ∈ names → ∃ c, (x, c) ∈ cellsFrom n names acc
  | (m, k) :: r, n, acc, x, h => by
    unfold cellsFrom
    rcases List.mem_cons.mp h with e | h
    · cases e
      exact ⟨n, cells_acc List.mem_cons_self⟩
    · split
      · exact cells_has h
      · exact cells_has h
theorem cells_inj : ∀ {names : List (Str × NameKind)} {h : Heap} {acc : List (Str × Addr)} {x y : Str} {c : Addr}, (∀ p ∈ acc, p.2 < h.objs.size) → (∀ x y c, (x, c) ∈ acc → (y, c) ∈ acc → x = y) →
    (x, c) ∈ cellsFrom h.objs.size names acc → (y, c) ∈ cellsFrom h.objs.size names acc → x = y
  | [], _, _, _, _, _, _, hi, h1, h2 => hi _ _ _ h1 h2
  | (n, k) :: r, h, acc, x, y, c, hl, hi, h1, h2 => by
    unfold cellsFrom at h1 h2
    split at h1
    · rename_i hk
      rw [if_pos hk] at h2
      rw [← Heap.size_push h { cls := .type "cell", data := .cell none }] at h1 h2
      refine cells_inj (h := h.push _) (fun p hp => ?_) (fun x y c a b => ?_) h1 h2
      · rw [Heap.size_push]
        rcases List.mem_cons.mp hp with rfl | hp
        · exact Nat.lt_succ_self _
        · exact Nat.lt_succ_of_lt (hl p hp)
      · rcases List.mem_cons.mp a with e | a <;> rcases List.mem_cons.mp b with e' | b
        · cases e; cases e'; rfl
        · cases e; exact absurd (hl _ b) (Nat.lt_irrefl _)
        · cases e'; exact absurd (hl _ a) (Nat.lt_irrefl _)
        · exact hi _ _ _ a b
    · rename_i hk
      rw [if_neg hk] at h2
      exact cells_inj hl hi h1 h2
theorem newEnv_comp {M : Model} {A : Around} {E : Value → Shared → Prop} {s : Shared} {scope : Scope} {globals : Addr} {closure : List (Str × Addr)} {qual : Str} {func : Option Addr} {code : Value} {around : Env} {builtins : Addr} {Q : Env → Shared → Prop}
    (h : Q (newEnv scope s.heap.objs.size globals (cellsFrom (s.heap.objs.size + 1) scope.names closure) qual func code (some around) builtins)
      { s with heap := pushCells (s.heap.push { cls := .type "dict", data := .dict #[] }) scope.names }) :
    wpAny M A (newFunctionEnv scope globals closure [] qual func code (some around) builtins) Q E s := by
  simp only [newFunctionEnv, Option.isSome_some, if_true]
  refine wpAny_bind (wpAny_alloc ?_)
  refine wpAny_bind (wpAny_layCells _ (fun n k c => rfl) scope.names closure _ _ ?_)
  rw [show ({ s with heap := s.heap.push { cls := .type "dict", data := .dict #[] } } : Shared).heap.objs.size = s.heap.objs.size + 1 from Heap.size_push ..]
  rw [List.forIn_nil]
  exact wpAny_bind (wpAny_pure (wpAny_pure h))
theorem lookup_relS {sc : Scope} : ∀ {names : List (Str × NameKind)} {x : Str} {k : NameKind},
    (names.map fun (n, k) => if (k == NameKind.free && sc.kind == .function && sc.names.lookup n == some .cell) then (n, NameKind.cell) else (n, k)).lookup x = some k →
    ∃ k', names.lookup x = some k' ∧ (k = k' ∨ (k' = .free ∧ k = .cell))
  | [], _, _, h => by simp at h
  | (n, k₀) :: r, x, k, h => by
    have ih := @lookup_relS sc r x k
    have h' : List.lookup x ((if (k₀ == NameKind.free && sc.kind == .function && sc.names.lookup n == some .cell) = true then (n, NameKind.cell) else (n, k₀)) :: (r.map _)) = some k := h
    cases hx : x == n with
    | true =>
      simp only [List.lookup_cons, hx]
      by_cases hc : (k₀ == NameKind.free && sc.kind == .function && sc.names.lookup n == some .cell) = true
      · rw [if_pos hc] at h'
        simp only [List.lookup_cons, hx] at h'
        cases h'
        simp only [Bool.and_eq_true, beq_iff_eq] at hc
        exact ⟨k₀, rfl, .inr ⟨hc.1.1, rfl⟩⟩
      · rw [if_neg hc] at h'
        simp only [List.lookup_cons, hx] at h'
        cases h'
        exact ⟨_, rfl, .inl rfl⟩
    | false =>
      simp only [List.lookup_cons, hx]
      by_cases hc : (k₀ == NameKind.free && sc.kind == .function && sc.names.lookup n == some .cell) = true
      · rw [if_pos hc] at h'
        simp only [List.lookup_cons, hx] at h'
        exact ih h'
      · rw [if_neg hc] at h'
        simp only [List.lookup_cons, hx] at h'
        exact ih h'
structure BlkOk (N : List Str) (sc scope : Scope) (own : List (Str × Nat)) : Prop where
  kind : scope.kind = .function
  uniq : ∀ y ∈ scope.names, scope.names.lookup y.1 = some y.2
  ix : ∀ p ∈ own, N[p.2]? = some p.1
  free : ∀ y ∈ scope.names, y.2 = .free → sc.names.lookup y.1 = some .cell ∨ sc.names.lookup y.1 = some .free
  own : ∀ y ∈ scope.names, y.2 = .local ∨ y.2 = .cell → y.1 ∈ own.map (·.1) ∨ y.1 ∉ N
def wipe (σ : St) : List Nat → St
  | [] => σ
  | v :: vs => (wipe σ vs).set v none
theorem wipe_length (σ : St) : ∀ vs : List Nat, (wipe σ vs).length = σ.length
  | [] => rfl
  | v :: vs => by unfold wipe; rw [List.length_set, wipe_length σ vs]
theorem wipe_some {σ : St} {i : Nat} {x : V} : ∀ {vs : List Nat}, (wipe σ vs)[i]? = some (some x) → σ[i]? = some (some x) ∧ i ∉ vs
  | [], h => ⟨h, by simp⟩
  | v :: vs, h => by
    unfold wipe at h
    by_cases hi : v = i
    · subst hi
      by_cases hv : v < (wipe σ vs).length
      · rw [List.getElem?_set_self hv] at h; cases h
      · rw [List.getElem?_eq_none (by simpa using hv)] at h; cases h
    · rw [List.getElem?_set_ne hi] at h
      obtain ⟨h1, h2⟩ := wipe_some h
      exact ⟨h1, by simp only [List.mem_cons, not_or]; exact ⟨fun e => hi e.symm, h2⟩⟩
abbrev Cx.blk (X : Cx) (s : Shared) (H : Hp) (scope : Scope) (cenv : Env) (fp : List Addr) : Cx := { X with s_0 := s, H_0 := H, env := cenv, outer := X.stack, ex := fp, fn := fun x => scope.names.lookup x == some .cell, pn := [], xe := fun _ _ => False }
section
variable {X : Cx} {pins : List (Addr × Obj)} {σ : St} {H : Hp} {s : Shared}
theorem block_start {scope : Scope} {own : List (Str × Nat)} {fp : List Addr} (I : Inv X pins σ H s) (ok : BlkOk X.N X.env.scope scope own) (hN : X.N.Nodup) (hfp : ∀ b ∈ fp, FpOk X pins H b ∧ b < s.heap.objs.size) :
    Inv (X.blk s H scope (compEnvC scope (cellsFrom (s.heap.objs.size + 1) scope.names (cloFrom X.env.cells scope.names [])) s.heap.objs.size X.env) fp) [] (wipe σ (own.map (·.2))) H { s with heap := pushCells (s.heap.push { cls := .type "dict", data := .dict #[] }) scope.names } := by
  have hfree : ∀ y ∈ scope.names, y.2 = .free → ∃ c, X.env.cells.lookup y.1 = some c := fun y hy e => by
    rcases ok.free y hy e with k | k
    · exact I.ok.has _ (.inl k)
    · exact I.ok.has _ (.inr k)
  generalize hcenv : compEnvC scope (cellsFrom (s.heap.objs.size + 1) scope.names (cloFrom X.env.cells scope.names [])) s.heap.objs.size X.env = cenv
  have kp : ∀ b o, s.heap.get? b = some o → (pushCells (s.heap.push { cls := .type "dict", data := .dict #[] }) scope.names).get? b = some o := fun b o e => pushCells_keeps _ _ _ _ (Heap.get?_push_of_some _ e)
  have hL : cenv.locals = s.heap.objs.size := by rw [← hcenv]; rfl
  have hcl : cenv.cells = cellsFrom (s.heap.objs.size + 1) scope.names (cloFrom X.env.cells scope.names []) := by rw [← hcenv]; rfl
  have hsc : cenv.scope = relS scope X.env.scope := by rw [← hcenv]; rfl
  rw [← Heap.size_push s.heap { cls := .type "dict", data := .dict #[] }] at hcl
  have cm : ∀ {y c}, (y, c) ∈ cloFrom X.env.cells scope.names [] → X.env.cells.lookup y = some c ∧ c < s.heap.objs.size := fun {y c} hm => by
    rcases cloFrom_mem hm with hm | ⟨h1, rfl⟩
    · cases hm
    · obtain ⟨c, hc⟩ := hfree _ h1 rfl
      rw [hc]
      obtain ⟨w, z⟩ := I.cell _ _ hc
      exact ⟨rfl, z.lt⟩
  have mem : ∀ {y c}, cenv.cells.lookup y = some c → (X.env.cells.lookup y = some c ∧ c < s.heap.objs.size) ∨ (s.heap.objs.size + 1 ≤ c ∧ CellAt (pushCells (s.heap.push { cls := .type "dict", data := .dict #[] }) scope.names) c none) := fun {y c} e => by
    rw [hcl] at e
    rcases cells_mem (PySem.mem_of_lookup e) with hm | ⟨_, h2, h3⟩
    · exact .inl (cm hm)
    · rw [Heap.size_push] at h2; exact .inr ⟨h2, h3⟩
  have look : ∀ {y}, scope.names.lookup y = some .free → ∃ c, cenv.cells.lookup y = some c ∧ X.env.cells.lookup y = some c := fun {y} hl => by
    have hy : (y, NameKind.free) ∈ scope.names := PySem.mem_of_lookup hl
    obtain ⟨c', e'⟩ := mem_lookup (cells_acc (names := scope.names) (n := (s.heap.push { cls := .type "dict", data := .dict #[] }).objs.size) (cloFrom_has (cells := X.env.cells) (acc := []) hy))
    rw [← hcl] at e'
    refine ⟨c', e', ?_⟩
    rw [hcl] at e'
    rcases cells_mem (PySem.mem_of_lookup e') with hm | ⟨h1, _, _⟩
    · exact (cm hm).1
    · have := ok.uniq _ h1
      rw [hl] at this; cases this
  have okB : (X.blk s H scope cenv fp).Ok := by
    refine ⟨I.ok.mod, by show cenv.scope.kind = _; rw [hsc]; exact ok.kind, by show cenv.globals = _; rw [← hcenv]; exact I.ok.glob, by show cenv.builtins = _; rw [← hcenv]; exact I.ok.blt, by show s.heap.objs.size ≤ cenv.locals; rw [hL]; exact Nat.le_refl _,
      fun y z c e1 e2 => ?_, fun y hy => ?_, fun y c z e => ?_, I.ok.hd, I.ok.frames, .inl rfl, fun b hb => ⟨?_, fun y c e z => ?_⟩, I.bs, Nat.le_trans I.ok.bsz I.sz, fun b o e hb => ?_, fun b hb z => ?_, I.stack, I.stkFree⟩
    · have e1 : cenv.cells.lookup y = some c := e1
      have e2 : cenv.cells.lookup z = some c := e2
      rw [hcl] at e1 e2
      refine cells_inj (fun p hp => ?_) (fun y z c a b => I.ok.inj y z c (cm a).1 (cm b).1) (PySem.mem_of_lookup e1) (PySem.mem_of_lookup e2)
      rw [Heap.size_push]
      exact Nat.lt_succ_of_lt (cm (y := p.1) (c := p.2) hp).2
    · show ∃ c, cenv.cells.lookup y = some c
      have key : ∀ k, cenv.kindOf y = some k → (k = .cell ∨ k = .free) → ∃ c, cenv.cells.lookup y = some c := fun k hk hk' => by
        unfold Env.kindOf at hk
        rw [hsc] at hk
        obtain ⟨k', e, r⟩ := lookup_relS hk
        have : k' = .cell ∨ k' = .free := by
          rcases r with rfl | ⟨rfl, _⟩
          · exact hk'
          · exact .inr rfl
        rcases this with rfl | rfl
        · obtain ⟨c, hm⟩ := cells_has (n := (s.heap.push { cls := .type "dict", data := .dict #[] }).objs.size) (acc := cloFrom X.env.cells scope.names []) (PySem.mem_of_lookup e)
          obtain ⟨c', e'⟩ := mem_lookup hm
          exact ⟨c', by rw [hcl]; exact e'⟩
        · obtain ⟨c, h1, _⟩ := look e
          exact ⟨c, h1⟩
      rcases hy with hy | hy
      · exact key _ hy (.inl rfl)
      · exact key _ hy (.inr rfl)
    · have z : (scope.names.lookup y == some NameKind.cell) = true := z
      have z : scope.names.lookup y = some .cell := by simpa using z
      have e : cenv.cells.lookup y = some c := e
      rw [hcl] at e
      rcases cells_mem (PySem.mem_of_lookup e) with hm | ⟨_, h2, _⟩
      · rcases cloFrom_mem hm with hm | ⟨h1, _⟩
        · cases hm
        · have q := ok.uniq _ h1
          rw [z] at q; cases q
      · rw [Heap.size_push] at h2
        exact Nat.le_of_succ_le h2
    · show b ≠ cenv.locals
      rw [hL]; exact Nat.ne_of_lt (hfp b hb).2
    · have e : cenv.cells.lookup y = some c := e
      rcases mem e with ⟨h1, _⟩ | ⟨h1, _⟩
      · exact (hfp b hb).1.2.2.2.2.1 y c h1 z
      · have h2 : s.heap.objs.size + 1 ≤ b := by rw [← z]; exact h1
        exact absurd (Nat.lt_of_lt_of_le (hfp b hb).2 (Nat.le_of_succ_le h2)) (Nat.lt_irrefl _)
    · rcases (hfp b hb).1.2.2.2.1 with z | z
      · exact I.ok.noex b o e z
      · exact absurd (Nat.lt_of_lt_of_le (Heap.lt_size e) (Nat.le_trans I.ok.bsz z)) (Nat.lt_irrefl _)
    · rcases List.mem_cons.mp (I.stkSub b z) with z | z
      · exact (hfp b hb).1.2.1 z
      · exact (hfp b hb).1.2.2.1 z
  refine ⟨okB, rfl, I.bare, Un.kept kp, ⟨fun _ => none, ?_, fun i y av e1 e2 e3 => ?_⟩, fun y c e => ?_, ?_, fun y c e => ?_, fun p hp => ?_, I.hok.kept kp, by rw [wipe_length]; exact I.len⟩
  · show Heap.Ns _ cenv.locals _
    rw [hL]
    exact Heap.Ns.keeps (Heap.Ns.new ..) fun b o e => pushCells_keeps _ _ _ _ e
  · obtain ⟨e2, hne⟩ := wipe_some e2
    have hfr : scope.names.lookup y = some .free ∧ (cenv.kindOf y = some .cell ∨ cenv.kindOf y = some .free) := by
      have key : ∀ k, cenv.scope.names.lookup y = some k → k = .local ∨ k = .cell ∨ k = .free → scope.names.lookup y = some .free ∧ (cenv.kindOf y = some .cell ∨ cenv.kindOf y = some .free) := fun k hk hk' => by
        have hk0 := hk
        rw [hsc] at hk
        obtain ⟨k', e, r⟩ := lookup_relS hk
        have no : ¬ (k' = .local ∨ k' = .cell) := fun hh => by
          rcases ok.own _ (PySem.mem_of_lookup e) hh with e' | e'
          · obtain ⟨p, hp, hpy⟩ := List.mem_map.mp e'
            have e3 := ok.ix p hp
            have : p.1 = y := hpy
            rw [this] at e3
            exact hne (List.mem_map.mpr ⟨p, hp, nodup_ix hN e3 e1⟩)
          · exact e' (List.mem_of_getElem? e1)
        rcases r with rfl | ⟨rfl, rfl⟩
        · rcases hk' with rfl | rfl | rfl
          · exact absurd (.inl rfl) no
          · exact absurd (.inr rfl) no
          · exact ⟨e, .inr hk0⟩
        · exact ⟨e, .inl hk0⟩
      have e3 : Vis cenv.scope y := e3
      rcases e3 with e3 | e3 | e3
      · exact key _ e3 (.inl rfl)
      · exact key _ e3 (.inr (.inl rfl))
      · exact key _ e3 (.inr (.inr rfl))
    obtain ⟨m, hn, hl⟩ := I.loc
    have hvis : Vis X.env.scope y := (ok.free _ (PySem.mem_of_lookup hfr.1) rfl).elim (fun k => .inr (.inl k)) (fun k => .inr (.inr k))
    obtain ⟨w, r, q⟩ := hl i y av e1 e2 hvis
    refine ⟨w, r, .inr ⟨hfr.2, ?_⟩⟩
    obtain ⟨c, h1, h2⟩ := look hfr.1
    rcases q with ⟨k, _⟩ | ⟨_, c', e', z⟩
    · have k : X.env.scope.names.lookup y = some .local := k
      rcases ok.free _ (PySem.mem_of_lookup hfr.1) rfl with k' | k' <;> rw [show X.env.scope.names.lookup y = _ from k'] at k <;> cases k
    · rw [h2] at e'; cases e'
      exact ⟨c, h1, z.keeps kp⟩
  · have e : cenv.cells.lookup y = some c := e
    rcases mem e with ⟨h1, _⟩ | ⟨_, z⟩
    · obtain ⟨w, z⟩ := I.cell y c h1
      exact ⟨w, z.keeps kp⟩
    · exact ⟨_, z⟩
  · show H cenv.locals = none
    rw [hL]; exact I.hok.fresh (Nat.le_refl _)
  · have e : cenv.cells.lookup y = some c := e
    rcases mem e with ⟨h1, _⟩ | ⟨h1, _⟩
    · exact I.freeC y c h1
    · exact I.hok.fresh (Nat.le_of_succ_le h1)
  · exact absurd (show p ∈ ([] : List (Addr × Obj)) ++ [] from hp) (by simp)
theorem app_ok {E : Value → Shared → Prop} {D : Addr} {xs : List V} {y : V} {v : Value} {Q : Value → Shared → Prop} (I : Inv X pins σ H s) (hD : H D = some (.lst xs)) (hz : xs.length < sizeLine) (r : RelV y v)
    (h : ∀ s', Inv X pins σ (upd H D (.lst (xs ++ [y]))) s' → Q .none s') : wpAny (model X.prog X.w) X.A (call (.builtin "list.append") [.ref D, v]) Q E s := by
  obtain ⟨hz', its, n, ri, e⟩ := I.hok D _ hD
  have hl := ri.length
  refine append_at (hsz := by rw [List.size_toArray]; omega) e fun h' sb ho' => ?_
  refine h { s with heap := h' } (I.write (t' := s.toks) (by rw [hD]; trivial) (.inl rfl) (fun b u hb q => (sb.2 b hb).trans q) ⟨_, ho'⟩ ⟨by rw [List.length_append]; exact hz, its ++ [v], n + 1, ri.append (.cons r .nil), ?_⟩)
  rw [ho']
  simp
def PTs (X : Cx) (ifs : List Expr) (t : TT) : Prop :=
  ∀ (pins : List (Addr × Obj)) (s : Shared) (σ : St) (H : Hp) (Q : Bool → Hp → Prop), Inv X pins σ H s → t σ H Q →
    wpAny (model X.prog X.w) X.A (forIn ifs true fun c r => if r = true then do let ok ← isTrue c X.env (eval c X.env); pure (ForInStep.yield ok) else pure (ForInStep.yield r)) (TP X pins σ Q) X.xe s
def tYes : TT := fun _ H Q => Q true H
theorem pts_nil : PTs X [] tYes := fun _ _ _ H _ I h => wpAny_tests_nil ⟨H, I, h⟩
end
theorem thnF {α : Type} {t : Sem α} {Q Q' : α → Shared → Prop} {M : Model} {A : Around} {E : Value → Shared → Prop} {s : Shared} (h : wpAny M A t Q (fun _ _ => False) s) (hQ : ∀ a s, Q a s → Q' a s) : wpAny M A t Q' E s := wpAny_mono h hQ fun _ _ z => False.elim z
theorem compLoop_any {prog : Program} {w : World} {A : Around} {R : Result → Shared → Prop} {s : Shared} {elt target iter : Expr} {ifs : List Expr} {scope : Scope} {pos : Pos} {it acc : Value} {env : Env} (I : Nat → Shared → Prop)
    (turn : ∀ n s, I n s → wpAny (model prog w) A (pyNext it) (fun r s₁ => match r with
      | none => R (.ok .next) s₁
      | some v => wpAny (model prog w) A (letOwnedTupleGo target it v) (fun _ s₁' => wpAny (model prog w) A (assign target env v) (fun _ s₂ =>
          wpAny (model prog w) A (forIn ifs true fun c r => if r = true then do let ok ← isTrue c env (eval c env); pure (ForInStep.yield ok) else pure (ForInStep.yield r)) (fun ok s₃ =>
            if ok = true then wpAny (model prog w) A (eval elt env) (fun x s₄ =>
              wpAny (model prog w) A (call (.builtin "list.append") [acc, x]) (fun _ s₅ => ∃ m, m < n ∧ I m s₅) (notedBy (model prog w) A env fun e s' => R (.error e) s') s₄) (notedBy (model prog w) A env fun e s' => R (.error e) s') s₃
            else ∃ m, m < n ∧ I m s₃) (notedBy (model prog w) A env fun e s' => R (.error e) s') s₂) (notedBy (model prog w) A env fun e s' => R (.error e) s') s₁') (notedBy (model prog w) A env fun e s' => R (.error e) s') s₁) (notedBy (model prog w) A env fun e s' => R (.error e) s') s)
    (n : Nat) (h : I n s) :
    codeAny (model prog w) A (.compLoop (.ListComp elt [⟨target, iter, ifs, 0⟩] scope pos) 0 it acc env) R s := by
  refine codeAny_loop rfl I (fun n s hI => ?_) n h
  show wpAny _ A ((compTurn (.ListComp elt [⟨target, iter, ifs, 0⟩] scope pos) 0 it acc env).onRaise (fun x => do noteFrame x env; theTreesLotGoes x)) _ _ s
  refine wpAny_noted ?_
  rw [compTurn_list]
  refine wpAny_bind (wpAny_standAt (wpAny_bind (wpAny_mono (turn n s hI) (fun r s₁ h₁ => ?_) fun _ _ h' => h')))
  cases r with
  | none => exact wpAny_pure h₁
  | some v =>
    refine wpAny_bind (wpAny_mono h₁ (fun _ s₁' h₁' => ?_) fun _ _ h' => h')
    refine wpAny_bind (wpAny_mono h₁' (fun _ s₂ h₂ => wpAny_bind (wpAny_mono h₂ (fun ok s₃ h₃ => ?_) fun _ _ h' => h')) fun _ _ h' => h')
    cases ok with
    | false => exact wpAny_pure ⟨rfl, h₃⟩
    | true =>
      exact wpAny_bind (wpAny_bind (wpAny_mono h₃ (fun x s₄ h₄ => wpAny_bind (wpAny_mono h₄ (fun _ s₅ h₅ => wpAny_pure (wpAny_pure ⟨rfl, h₅⟩)) fun _ _ h' => h')) fun _ _ h' => h'))
section
variable {X : Cx}
def tLc (wi : TI) (g : TG) (tt : TT) (te : TE) (vs : List Nat) : TE := fun σ H Q => wi σ H fun J H1 => ∀ D, H1 D = none → ∃ W : Nat → Nat → Hp → Prop, (∃ m, W 0 m (upd H1 D (.lst []))) ∧ ∀ i m H, W i m H →
  (J.stop i H ∧ Q (.ref D) H) ∨ (J.go i H ∧ ∃ Nx : Hp → Prop, (∀ H', Nx H' → ∃ m', m' < m ∧ W (i + 1) m' H') ∧ ∀ x H', J.yld i H x H' → g x (wipe σ vs) H' fun σ2 H2 => wipe σ2 vs = wipe σ vs ∧ tt σ2 H2 fun b H3 =>
    if b = true then te σ2 H3 fun y H4 => ∃ acc, H4 D = some (.lst acc) ∧ acc.length < sizeLine ∧ Nx (upd H4 D (.lst (acc ++ [y]))) else Nx H3)
theorem lc_core {pins : List (Addr × Obj)} {s : Shared} {σ : St} {H : Hp} {Q : VK} {elt tg iter : Expr} {ifs : List Expr} {scope : Scope} {own : List (Str × Nat)} {pos pos' : Pos} {wi : TI} {g : TG} {tt : TT} {te : TE} {use : Option (Value → Sem Unit)} {Qf : Value → Shared → Prop}
    (hc : X.calm = true) (hN : X.N.Nodup) (I : Inv X pins σ H s) (hi : PI X tg iter wi) (ok : BlkOk X.N X.env.scope scope own)
    (hg : ∀ (s : Shared) (H : Hp) (C : Addr) (cl : List (Str × Addr)) (fp : List Addr), PG (X.blk s H scope (compEnvC scope cl C X.env) fp) tg g) (ht : ∀ (s : Shared) (H : Hp) (C : Addr) (cl : List (Str × Addr)) (fp : List Addr), PTs (X.blk s H scope (compEnvC scope cl C X.env) fp) ifs tt)
    (he : ∀ (s : Shared) (H : Hp) (C : Addr) (cl : List (Str × Addr)) (fp : List Addr), PE (X.blk s H scope (compEnvC scope cl C X.env) fp) elt te) (hs : ∀ x, foldedSetIterable iter X.env x = pure x)
    (h : tLc wi g tt te (own.map (·.2)) σ H Q)
    (hRR : ∀ D C s' m H', Inv X pins σ H' s' → Q (.ref D) H' → s'.heap.Ns C m → FpOk X pins H' C → compPost (model X.prog X.w) X.A X.xe use Qf (.ref D) C (.ok .next) s') :
    wpAny (model X.prog X.w) X.A (comprehension (.ListComp elt [⟨tg, iter, ifs, 0⟩] scope pos) scope X.env pos' (newList []) false (eval iter X.env) use) Qf X.xe s := by
  have hfree : ∀ y ∈ scope.names, y.2 = .free → ∃ c, X.env.cells.lookup y.1 = some c := fun y hy e => by
    rcases ok.free y hy e with k | k
    · exact I.ok.has _ (.inl k)
    · exact I.ok.has _ (.inr k)
  refine wpAny_comprehension_free (use := use) rfl hs (closure_ok hfree) ok.kind (fun y hy e => by rw [ok.uniq y hy, e])
    (thn (hi pins s σ H _ I h) fun xv s1 hx => thn hx fun itv s2 h2 => ?_)
  obtain ⟨it, fp, tn, J, H2, e, I2, T, st2, f2, q⟩ := h2
  subst e
  refine wpAny_newObj_type (newEnv_comp ?_) (by show 0 ≤ sizeLine; decide)
  generalize hD : s2.heap.objs.size = D
  have hDn : H2 D = none := I2.hok.fresh (Nat.le_of_eq hD)
  obtain ⟨W, ⟨m0, w0⟩, turn⟩ := q D hDn
  generalize hs3 : ({ s2 with heap := s2.heap.push { cls := .type "list", data := .seq ([] : List Value).toArray } } : Shared) = s3
  have I3 : Inv X pins σ (upd H2 D (.lst [])) s3 := by
    rw [← hs3]
    refine I2.laid (t' := s2.toks) (fun b o e => Heap.get?_push_of_some _ e) (Nat.le_of_eq hD) ⟨Nat.zero_le _, [], 0, .nil, ?_⟩
    rw [← hD]
    exact Heap.get?_push_size _ rfl
  have h3 : s3.heap = s2.heap.push { cls := .type "list", data := .seq ([] : List Value).toArray } := by rw [← hs3]
  have sz : ∀ b ∈ fp, b < s2.heap.objs.size := fun b hb => by
    obtain ⟨o, e, _⟩ := T.obj _ _ st2 b hb
    exact Heap.lt_size e
  have f3 : ∀ b ∈ fp, FpOk X pins (upd H2 D (.lst [])) b ∧ b < s3.heap.objs.size := fun b hb => by
    have hlt := sz b hb
    refine ⟨⟨?_, (f2 b hb).2⟩, by rw [h3, Heap.size_push]; exact Nat.lt_succ_of_lt hlt⟩
    rw [upd_ne (by rw [← hD]; exact Nat.ne_of_lt hlt)]
    exact (f2 b hb).1
  have st3 : tn 0 s3.heap := T.keep _ _ _ st2 fun b _ o e => by rw [h3]; exact Heap.get?_push_of_some _ e
  have I4 := block_start I3 ok hN f3
  have pg := hg s3 (upd H2 D (.lst [])) s3.heap.objs.size (cellsFrom (s3.heap.objs.size + 1) scope.names (cloFrom X.env.cells scope.names [])) fp
  have pt := ht s3 (upd H2 D (.lst [])) s3.heap.objs.size (cellsFrom (s3.heap.objs.size + 1) scope.names (cloFrom X.env.cells scope.names [])) fp
  have pe := he s3 (upd H2 D (.lst [])) s3.heap.objs.size (cellsFrom (s3.heap.objs.size + 1) scope.names (cloFrom X.env.cells scope.names [])) fp
  show codeAny _ _ (.compStart (.ListComp elt [⟨tg, iter, ifs, 0⟩] scope pos) 0 (.ref it) (.ref D) (compEnvC scope (cellsFrom (s3.heap.objs.size + 1) scope.names (cloFrom X.env.cells scope.names [])) s3.heap.objs.size X.env)) (compPost (model X.prog X.w) X.A X.xe use Qf (.ref D) s3.heap.objs.size) { s3 with heap := pushCells (s3.heap.push { cls := .type "dict", data := .dict #[] }) scope.names }
  have nfp : ∀ b ∈ fp, (upd H2 D (.lst [])) b = none := fun b hb => (f3 b hb).1.1
  generalize hce : compEnvC scope (cellsFrom (s3.heap.objs.size + 1) scope.names (cloFrom X.env.cells scope.names [])) s3.heap.objs.size X.env = ce at I4 pg pt pe ⊢
  have cL : ce.locals = s3.heap.objs.size := by subst hce; rfl
  generalize hH3 : upd H2 D (.lst []) = H3 at I3 I4 pg pt pe w0 nfp f3
  generalize hs4 : ({ s3 with heap := pushCells (s3.heap.push { cls := .type "dict", data := .dict #[] }) scope.names } : Shared) = s4 at I4 ⊢
  have st4 : tn 0 s4.heap := T.keep _ _ _ st3 fun b _ o e => by rw [← hs4]; exact pushCells_keeps _ _ _ _ (Heap.get?_push_of_some _ e)
  have stat : ∀ {σ' : St} {H' : Hp} {s' : Shared}, Inv (X.blk s3 H3 scope ce fp) [] σ' H' s' → (∀ b ∈ fp, H' b = none) → ∀ b ∈ fp, FpOk (X.blk s3 H3 scope ce fp) [] H' b := fun {σ' H' s'} I' hn b hb =>
    ⟨hn b hb, (I'.ok.exf b hb).1, I'.ok.exfs b hb, .inl hb, fun x c e => (I'.ok.exf b hb).2 x c e, fun p hp => absurd (show p ∈ ([] : List (Addr × Obj)) ++ [] from hp) (by simp)⟩
  have loop : codeAny (model X.prog X.w) X.A (.compLoop (.ListComp elt [⟨tg, iter, ifs, 0⟩] scope pos) 0 (.ref it) (.ref D) ce) (compPost (model X.prog X.w) X.A X.xe use Qf (.ref D) s3.heap.objs.size) s4 := by
    refine compLoop_any (fun n s' => ∃ i H', Inv (X.blk s3 H3 scope ce fp) [] (wipe σ (own.map (·.2))) H' s' ∧ tn i s'.heap ∧ (∀ b ∈ fp, H' b = none) ∧ W i n H') ?_ m0 ⟨0, H3, I4, st4, nfp, w0⟩
    rintro n s5 ⟨i, H5, I5, st5, n5, w5⟩
    rcases turn i n H5 w5 with ⟨stop, qq⟩ | ⟨go, Nx, hNx, step⟩
    · have td := T.done (X.blk s3 H3 scope ce fp) rfl rfl rfl hc i [] s5 _ H5 (fun _ _ => False) I5 (stat I5 n5) st5 stop
      refine thnF td fun r s6 ⟨hr, I6⟩ => ?_
      subst hr
      have I7 : Inv X pins σ H5 s6 := I3.call' (ch := fp) I6.os I6.base I6.hok I6.bare fun b hb => ⟨(f3 b hb).1.2.2.2.1, (f3 b hb).1.2.1, (f3 b hb).1.2.2.2.2.1, (f3 b hb).1.2.2.2.2.2⟩
      have nC : H5 s3.heap.objs.size = none := by
        have z : H5 ce.locals = none := I6.free
        rw [cL] at z
        exact z
      obtain ⟨m, hn, _⟩ := I6.loc
      have hn : s6.heap.Ns ce.locals m := hn
      rw [cL] at hn
      exact hRR D s3.heap.objs.size s6 m H5 I7 qq hn (I3.fpOk (Nat.le_refl _) nC)
    · have ti := T.item (X.blk s3 H3 scope ce fp) rfl rfl rfl hc i [] s5 _ H5 (fun _ _ => False) I5 (stat I5 n5) st5 go
      refine thnF ti fun r s6 ⟨u, hr, h6⟩ => ?_
      subst hr
      refine thnF h6 fun _ s7 ⟨x, H7, I7, r7, y7, st7, n7⟩ => ?_
      have I7' := I7.pinned (stat I7 n7) (T.obj _ _ st7)
      refine thnF (pg _ s7 _ H7 x u _ I7' r7 (step x H7 y7)) fun _ s8 ⟨σ8, H8, I8, hw8, q8⟩ => ?_
      refine thnF (pt _ s8 σ8 H8 _ I8 q8) fun b s9 ⟨H9, I9, q9⟩ => ?_
      have fin : ∀ {s' : Shared} {H' : Hp}, Inv (X.blk s3 H3 scope ce fp) ([] ++ pinsAt fp s7.heap) σ8 H' s' → Nx H' → ∃ m, m < n ∧ ∃ i H', Inv (X.blk s3 H3 scope ce fp) [] (wipe σ (own.map (·.2))) H' s' ∧ tn i s'.heap ∧ (∀ b ∈ fp, H' b = none) ∧ W i m H' := fun {s' H'} I' nx => by
        obtain ⟨m', hm, w'⟩ := hNx H' nx
        have pin' : ∀ b ∈ fp, ∀ o, s7.heap.get? b = some o → s'.heap.get? b = some o ∧ H' b = none := fun b hb o e =>
          let z := I'.pin (b, o) (List.mem_append_right _ (List.mem_append_right _ (mem_pinsAt hb e)))
          ⟨z.1, z.2.1⟩
        have hl : (wipe σ (own.map (·.2))).length = σ8.length := by rw [← hw8, wipe_length]
        refine ⟨m', hm, i + 1, H', (I'.unpinned (pins := [])).weak hl (fun j v e => ?_), T.keep _ _ _ st7 fun b hb o e => (pin' b hb o e).1, fun b hb => ?_, w'⟩
        · rw [← hw8] at e
          exact (wipe_some e).1
        · obtain ⟨o, e, _⟩ := T.obj _ _ st7 b hb
          exact (pin' b hb o e).2
      cases b with
      | false =>
        simp only [Bool.false_eq_true, if_false] at q9 ⊢
        exact fin I9 q9
      | true =>
        simp only [if_true] at q9 ⊢
        refine thnF (pe _ s9 σ8 H9 _ I9 q9) fun z s10 ⟨yv, H10, I10, r10, acc, hD10, hz10, nx⟩ => ?_
        exact app_ok (X := X.blk s3 H3 scope ce fp) I10 hD10 hz10 r10 fun s11 I11 => fin I11 nx
  exact codeAny_compStart_list loop (T.self X.A 0 _ _ _ st4 loop)
theorem pe_lc {elt tg iter : Expr} {ifs : List Expr} {scope : Scope} {own : List (Str × Nat)} {pos : Pos} {wi : TI} {g : TG} {tt : TT} {te : TE} (hc : X.calm = true) (hN : X.N.Nodup) (hi : PI X tg iter wi) (ok : BlkOk X.N X.env.scope scope own)
    (hg : ∀ (s : Shared) (H : Hp) (C : Addr) (cl : List (Str × Addr)) (fp : List Addr), PG (X.blk s H scope (compEnvC scope cl C X.env) fp) tg g) (ht : ∀ (s : Shared) (H : Hp) (C : Addr) (cl : List (Str × Addr)) (fp : List Addr), PTs (X.blk s H scope (compEnvC scope cl C X.env) fp) ifs tt)
    (he : ∀ (s : Shared) (H : Hp) (C : Addr) (cl : List (Str × Addr)) (fp : List Addr), PE (X.blk s H scope (compEnvC scope cl C X.env) fp) elt te) (hs : ∀ x, foldedSetIterable iter X.env x = pure x := by intro _; rfl) :
    PE X (.ListComp elt [⟨tg, iter, ifs, 0⟩] scope pos) (tLc wi g tt te (own.map (·.2))) := by
  intro pins s σ H Q I h
  rw [eval_ListComp]
  refine lc_core hc hN I hi ok hg ht he hs h fun D C s' m H' I' q hn f => ⟨m, hn, fun h'' sb => ?_⟩
  obtain ⟨f0, f1, f2, f3, f4, f5⟩ := f
  exact ⟨.ref D, H', I'.turned (t' := s'.toks) (fun b o hb e => (sb.2 b hb).trans e) f0 f1 f3 f4 f5, rfl, q⟩
theorem ps_setLc {i : Nat} {y : Str} {py : Pos} {elt tg iter : Expr} {ifs : List Expr} {scope : Scope} {own : List (Str × Nat)} {pos spos : Pos} {wi : TI} {g : TG} {tt : TT} {te : TE} (hc : X.calm = true) (hN : X.N.Nodup) (hy : X.N[i]? = some y) (hyl : X.env.scope.names.lookup y = some .local)
    (hsw : swapsWith (.ListComp elt [⟨tg, iter, ifs, 0⟩] scope pos) (some (.Name y py)) spos.line X.env = pure true) (hi : PI X tg iter wi) (ok : BlkOk X.N X.env.scope scope own)
    (hg : ∀ (s : Shared) (H : Hp) (C : Addr) (cl : List (Str × Addr)) (fp : List Addr), PG (X.blk s H scope (compEnvC scope cl C X.env) fp) tg g) (ht : ∀ (s : Shared) (H : Hp) (C : Addr) (cl : List (Str × Addr)) (fp : List Addr), PTs (X.blk s H scope (compEnvC scope cl C X.env) fp) ifs tt)
    (he : ∀ (s : Shared) (H : Hp) (C : Addr) (cl : List (Str × Addr)) (fp : List Addr), PE (X.blk s H scope (compEnvC scope cl C X.env) fp) elt te) (hs : ∀ x, foldedSetIterable iter X.env x = pure x := by intro _; rfl) :
    PS X (.Assign [.Name y py] (.ListComp elt [⟨tg, iter, ifs, 0⟩] scope pos) spos) (tAsg (tLc wi g tt te (own.map (·.2))) (gName i)) := by
  intro pins s σ H D I h
  rw [exec_Assign_Name_used _ _ _ _ hsw]
  refine wpAny_bind (wpAny_standAt (wpAny_bind ?_))
  show wpAny _ X.A (do let _ ← comprehension (.ListComp elt [⟨tg, iter, ifs, 0⟩] scope pos) scope X.env (firstIterPos [⟨tg, iter, ifs, 0⟩] pos) (newList []) false (eval iter X.env) (some (assign (.Name y py) X.env))) _ _ s
  have h : tLc wi g tt te (own.map (·.2)) σ H (fun x H1 => gName i x σ H1 D.nx) := h
  refine wpAny_bind (thn (lc_core (Qf := fun _ s' => SP X pins D .next s') hc hN I hi ok hg ht he hs h fun L C s' m H' I' q hn f => ?_) fun _ s' hq => wpAny_pure (wpAny_pure hq))
  show wpAny _ _ (assign (.Name y py) X.env (.ref L)) _ _ _
  refine wpAny_assign_Name (store_ok2 (v := V.ref L) I' hN hy (.inl hyl) rfl (fun s2 I2 ⟨a, sb, ha⟩ => ?_) (.inr hyl))
  obtain ⟨f0, f1, f2, f3, f4, f5⟩ := f
  have haC : C ≠ a := by
    rcases ha with z | z
    · rw [z]; exact f1
    · exact fun e => f4 y a z e.symm
  refine ⟨m, hn.sameBut sb haC, fun h3 sb3 => ?_⟩
  exact ⟨_, H', I2.turned (t' := s2.toks) (fun b o hb e => (sb3.2 b hb).trans e) f0 f1 f3 f4 f5, q⟩
theorem sw_true {elt : Expr} {gs : List Comprehension} {scope : Scope} {pos py : Pos} {y : Str} {l : Nat} {env : Env} (hk : env.scope.kind = .function) (hy : env.scope.names.lookup y = some .local) (hl : (py.line == pos.line) = true)
    (ha : (scope.names.any fun (n, k) => n == y && (k == .local || k == .cell)) = false) : swapsWith (.ListComp elt gs scope pos) (some (.Name y py)) l env = pure true := by
  have ky : env.kindOf y = some .local := hy
  have hb : env.blockKind = .function := by unfold Env.blockKind; rw [hk]; rfl
  unfold swapsWith
  simp only [hb, ky, ha, Expr.pos, hl]
  rfl
end
theorem lc_list {K : PySem.W.Frag} {a : Addr} {xs : List V} {g : TG} {tt : TT} {te : TE} {vs : List Nat} {σ : St} {H1 : Hp} {D : Addr} {Qd : Hp → Prop} (Pv : Nat → Hp → Prop) (h0 : Pv 0 (upd H1 D (.lst []))) (hl : ∀ i H, i ≤ xs.length → Pv i H → SqL K H a xs)
    (hs : ∀ i x H, xs[i]? = some x → Pv i H → g x (wipe σ vs) H fun σ2 H2 => wipe σ2 vs = wipe σ vs ∧ tt σ2 H2 fun b H3 =>
      if b = true then te σ2 H3 fun y H4 => ∃ acc, H4 D = some (.lst acc) ∧ acc.length < sizeLine ∧ Pv (i + 1) (upd H4 D (.lst (acc ++ [y]))) else Pv (i + 1) H3) (hd : ∀ H, Pv xs.length H → Qd H) :
    ∃ W : Nat → Nat → Hp → Prop, (∃ m, W 0 m (upd H1 D (.lst []))) ∧ ∀ i m H, W i m H →
      ((Itl K a).stop i H ∧ Qd H) ∨ ((Itl K a).go i H ∧ ∃ Nx : Hp → Prop, (∀ H', Nx H' → ∃ m', m' < m ∧ W (i + 1) m' H') ∧ ∀ x H', (Itl K a).yld i H x H' → g x (wipe σ vs) H' fun σ2 H2 => wipe σ2 vs = wipe σ vs ∧ tt σ2 H2 fun b H3 =>
        if b = true then te σ2 H3 fun y H4 => ∃ acc, H4 D = some (.lst acc) ∧ acc.length < sizeLine ∧ Nx (upd H4 D (.lst (acc ++ [y]))) else Nx H3) := by
  refine ⟨fun i m H => m = xs.length - i ∧ i ≤ xs.length ∧ Pv i H, ⟨xs.length, by simp, Nat.zero_le _, h0⟩, ?_⟩
  rintro i m H ⟨rfl, hi, p⟩
  have q := hl i H hi p
  by_cases hlt : i < xs.length
  · refine .inr ⟨⟨xs, xs[i], q, by simp [hlt]⟩, Pv (i + 1), fun H' p' => ⟨xs.length - (i + 1), by omega, rfl, hlt, p'⟩, fun x H' y => ?_⟩
    obtain ⟨e, y⟩ := y
    subst e
    exact hs i x _ (y xs q) p
  · have e : i = xs.length := by omega
    subst e
    exact .inl ⟨⟨xs, q, Nat.le_refl _⟩, hd H p⟩
def blkC (N : List Str) (sc scope : Scope) (own : List (Str × Nat)) : Bool :=
  (match scope.kind with | .function => true | _ => false) && (scope.names.all fun y => decide (scope.names.lookup y.1 = some y.2)) && (own.all fun p => decide (N[p.2]? = some p.1)) &&
    (scope.names.all fun y => match y.2 with
      | .free => (match sc.names.lookup y.1 with | some .cell => true | some .free => true | _ => false)
      | .local => decide (y.1 ∈ own.map (·.1)) || decide (y.1 ∉ N)
      | .cell => decide (y.1 ∈ own.map (·.1)) || decide (y.1 ∉ N)
      | _ => true)
theorem blkOk_by {N : List Str} {sc scope : Scope} {own : List (Str × Nat)} (h : blkC N sc scope own = true) : BlkOk N sc scope own := by
  unfold blkC at h
  simp only [Bool.and_eq_true, List.all_eq_true, decide_eq_true_eq] at h
  obtain ⟨⟨⟨h1, h2⟩, h3⟩, h4⟩ := h
  refine ⟨?_, h2, h3, fun y hy e => ?_, fun y hy e => ?_⟩
  · split at h1
    · assumption
    · cases h1
  · have q := h4 y hy
    simp only [e] at q
    split at q <;> first | exact .inl (by assumption) | exact .inr (by assumption) | cases q
  · have q := h4 y hy
    rcases e with e | e <;> (simp only [e, Bool.or_eq_true, decide_eq_true_eq] at q; exact q)
end L2
namespace L2
open PySem PySem.Spec PyProof.Rows
section
variable {prog : Program} {w : World} {A : Around} {R : Result → Shared → Prop} {s : Shared} {elt t0 i0 t1 i1 : Expr} {ifs0 ifs1 : List Expr} {scope : Scope} {pos : Pos} {it acc : Value} {env : Env}
end
section
variable {X : Cx}
end
end L2
namespace L2
open PySem PySem.Spec PyProof.Rows
section
variable {κ : Type} [DecidableEq κ]
end
section
variable {P : Program} {w : World} {H : Hp} {h : Heap} {a : Addr}
end
section
variable {X : Cx} {pins : List (Addr × Obj)} {σ : St} {H : Hp} {s : Shared} {a : Addr} {y v : V} {u r : Value} {o : Option V} {A : Around} {E : Value → Shared → Prop}
end
section
variable {X : Cx} {pins : List (Addr × Obj)} {σ : St} {H : Hp} {s : Shared} {a : Addr} {kvs : List (Key × V)} {k : Key} {u : Value} {A : Around} {E : Value → Shared → Prop}
end
def NoSl (i : Expr) : Prop := ∀ ov iv, subscripted i false ov iv = operate [ov, iv] (getItem ov iv)
theorem subD_of {prog : Program} {w : World} {A : Around} {E : Value → Shared → Prop} {s : Shared} {env : Env} {value slice : Expr} {pos : Pos} {T id : String} {Q : Value → Shared → Prop}
    (hl : typeLookup (.type T) "__getitem__" = pure (some (.builtin id))) (hs : NoSl slice)
    (h : wpAny (model prog w) A (eval value env) (fun o s₁ => wpAny (model prog w) A (eval slice env) (fun i s₂ => s₂.TypeIs o T ∧ wpAny (model prog w) A (getItem o i) Q E s₂) E s₁) E s) :
    wpAny (model prog w) A (eval (.Subscript value slice pos) env) Q E s := by
  refine Subscript_ (wpAny_mono h (fun o s₁ h₁ => wpAny_mono h₁ (fun i s₂ h₂ => ?_) fun _ _ x => x) fun _ _ x => x)
  obtain ⟨hT, h₂⟩ := h₂
  unfold subscriptTail
  refine wpAny_bind ?_
  rw [getitemInPython_of_ne hT.not_modules]
  refine wpAny_bind (wpAny_specialOf hT hl ?_)
  have fin : wpAny (model prog w) A (subscripted slice false o i) (fun r s₃ => wpAny (model prog w) A (letTemporaryGo value o r >>= fun _ => pure r) Q E s₃) E s₂ := by
    rw [hs o i]
    exact wpAny_operating (wpAny_mono h₂ (fun r s₃ h₃ => wpAny_bind (wpAny_letTemporaryGo (wpAny_pure h₃))) fun _ _ x => x)
  first
    | exact wpAny_pure (wpAny_bind fin)
    | exact wpAny_bind (wpAny_pure (wpAny_bind fin))
    | exact wpAny_bind fin
section
variable {X : Cx} {o i e value : Expr} {pos pos' tpos : Pos} {td ty tv : TE}
end
section
variable {X : Cx} {pos : Pos}
end
section
variable {X : Cx} {pins : List (Addr × Obj)} {σ : St} {H : Hp} {s : Shared} {a : Addr} {y d : V} {u r : Value} {o : Option V} {A : Around} {E : Value → Shared → Prop}
end
section
variable {X : Cx} {o e f : Expr} {apos cpos : Pos} {td ty tx : TE}
end
section
variable {X : Cx} {pins : List (Addr × Obj)} {σ : St} {H : Hp} {s : Shared} {a : Addr} {kvs : List (Key × V)} {A : Around} {E : Value → Shared → Prop}
end
section
variable {X : Cx} {pins : List (Addr × Obj)} {σ : St} {H : Hp} {s : Shared} {a : Addr} {y : V} {u : Value} {A : Around} {E : Value → Shared → Prop}
end
end L2
namespace L2
open PySem PySem.Spec PyProof.Rows
section
variable {prog : Program} {w : World} {A : Around} {E : Value → Shared → Prop}
end
section
variable {X : Cx}
end
end L2
namespace L2
open PySem PySem.Spec PyProof.Rows
section
variable {X : Cx} {pins : List (Addr × Obj)} {σ : St} {H : Hp} {s : Shared} {h' : Heap}
theorem Inv.turnedL {t' : Nat} {ch : List Addr} (I : Inv X pins σ H s) (k : ∀ b o, b ∉ ch → s.heap.get? b = some o → h'.get? b = some o) (hf : ∀ b ∈ ch, FpOk X pins H b) : Inv X pins σ H { s with heap := h', toks := t' } := by
  have nit : ∀ b u, H b = some u → b ∉ ch := fun b u e z => by
    have q := (hf b z).1
    rw [q] at e; cases e
  refine I.step (g' := s.gens) (d' := s.drawn) (ch := ch) (fun b hb => ⟨(hf b hb).2.2.2.1, (hf b hb).2.1, (hf b hb).2.2.2.2.1, (hf b hb).2.2.2.2.2⟩) (fun b o _ _ hc e _ => k b o hc e) (fun b o _ _ hc e _ => ⟨o.slots, k b o hc e⟩)
    (fun _ _ _ _ n => n) (fun b o hc e => ⟨o, k b o hc e⟩) (fun _ _ e => e) (fun _ _ _ e => e) (fun b ps e => ⟨#[], by rw [e]; simp⟩) (fun m hm => ?_) (fun b u e => ?_) I.bare
  · obtain ⟨o, es, ep, ho, r⟩ := hm
    exact ⟨o, es, ep, k _ o (fun z => (hf _ z).2.1 rfl) ho, r⟩
  · refine (I.hok b u e).stay (fun c v hc q => k c v ?_ q) (fun _ q => q) fun _ _ q => q
    rcases hc with z | z
    · rw [z]; exact nit b u e
    · exact nit c _ z
theorem Inv.turnedNew {t' : Nat} {ch : List Addr} {T : Addr} {ob : HO} (I : Inv X pins σ H s) (k : ∀ b o, b ∉ ch → s.heap.get? b = some o → h'.get? b = some o) (hf : ∀ b ∈ ch, FpOk X pins H b) (hT : s.heap.objs.size ≤ T)
    (new : ObjOk X.prog X.w (upd H T ob) h' T ob) : Inv X pins σ (upd H T ob) { s with heap := h', toks := t' } := by
  have hn : H T = none := I.hok.fresh hT
  have nit : ∀ b u, H b = some u → b ∉ ch := fun b u e z => by
    have q := (hf b z).1
    rw [q] at e; cases e
  refine I.step (g' := s.gens) (d' := s.drawn) (ch := ch) (fun b hb => ⟨(hf b hb).2.2.2.1, (hf b hb).2.1, (hf b hb).2.2.2.2.1, (hf b hb).2.2.2.2.2⟩) (fun b o _ _ hc e _ => k b o hc e) (fun b o _ _ hc e _ => ⟨o.slots, k b o hc e⟩)
    (fun b o _ e n => ?_) (fun b o hc e => ⟨o, k b o hc e⟩) (fun b xs e => ?_) (fun b o u e => ?_) (fun b ps e => ⟨#[], ?_⟩) (fun m hm => ?_) (fun b u e => ?_) I.bare
  · rw [upd_ne (Nat.ne_of_lt (Nat.lt_of_lt_of_le (Heap.lt_size e) hT))]; exact n
  · rw [upd_ne (ne_of_none e hn)]; exact e
  · rw [upd_ne (ne_of_none e hn)]; exact e
  · rw [upd_ne (ne_of_none e hn), e]; simp
  · obtain ⟨o, es, ep, ho, r⟩ := hm
    exact ⟨o, es, ep, k _ o (fun z => (hf _ z).2.1 rfl) ho, r⟩
  · by_cases hb : b = T
    · subst hb
      rw [upd_same] at e
      cases e
      exact new
    · rw [upd_ne hb] at e
      refine (I.hok b u e).stay (fun c v hc q => k c v ?_ q) (fun c q => by rw [upd_ne (ne_of_none q hn)]; exact q) fun c xs q => by rw [upd_ne (ne_of_none q hn)]; exact q
      rcases hc with z | z
      · rw [z]; exact nit b u e
      · exact nit c _ z
end
section
variable {X : Cx}
theorem pi_one {tg : Expr} {pins : List (Addr × Obj)} {σ : St} {H : Hp} {s : Shared} {R : It → Hp → Prop} {J : It} {tn : Nat → Heap → Prop} {tk : Nat} (I : Inv X pins σ H s) (o : Obj)
    (T : Turn X.prog X.w X.K tg J [s.heap.objs.size] s.heap.objs.size tn) (st : tn 0 (s.heap.push o)) (q : R J H) : PIE X pins σ tg R (.ref s.heap.objs.size) { s with heap := s.heap.push o, toks := tk } := by
  refine ⟨s.heap.objs.size, [s.heap.objs.size], tn, J, H, rfl, I.kept fun b ob e => Heap.get?_push_of_some _ e, T, st, fun b hb => ?_, q⟩
  have e : b = s.heap.objs.size := by simpa using hb
  subst e
  exact I.fpOk (Nat.le_refl _) (I.hok.fresh (Nat.le_refl _))
end
def Itc (lo c : Int) (n : Nat) : It := ⟨fun i _ => i < n, fun i H x H' => H' = H ∧ x = .int (lo + (i : Nat) * c), fun i _ => n ≤ i⟩
theorem turn_rangeC {P : Program} {w : World} {K : PySem.W.Frag} {tg : Expr} (it : Addr) (lo c : Int) (n : Nat) : Turn P w K tg (Itc lo c n) [it] it (fun i h => IsRangeIter h it (lo + (i : Nat) * c) ((n : Int) - (i : Nat)) c) where
  mem := by simp
  obj := fun i h st b hb => by
    have e : b = it := by simpa using hb
    subst e
    exact ⟨_, st, fun v z => nomatch z⟩
  keep := fun i h h' st k => k it (by simp) _ st
  item := by
    intro X hP hw hK hc i pins s σ H E I hf st hg
    subst hP hw hK
    obtain ⟨f0, f1, f2, f3, f4, f5⟩ := hf it (by simp)
    have W := Walks.range (prog := X.prog) (w := X.w) (I.ok.hd hc) it lo c n
    refine W.item i s _ _ hg st fun v h' tk hv st' kk => ?_
    obtain ⟨t, rfl⟩ := hv
    have I1 : Inv X pins σ H { s with heap := h', toks := tk } := I.turned (fun b o hb e => kk b o (by simpa using hb) e) f0 f1 f3 f4 f5
    exact ⟨_, rfl, go_of (s := { s with heap := h', toks := tk }) (n := "range_iterator") st' rfl rfl (by decide) ⟨.int (lo + (i : Nat) * c), H, I1, ⟨t, rfl⟩, ⟨rfl, rfl⟩, st', fun b hb => (hf b hb).1⟩⟩
  done := by
    intro X hP hw hK hc i pins s σ H E I hf st hg
    subst hP hw hK
    obtain ⟨f0, f1, f2, f3, f4, f5⟩ := hf it (by simp)
    exact wpAny_pyNext_range_end (I.ok.hd hc) st (by have : n ≤ i := hg; omega) fun h' eb => ⟨rfl, I.turned (t' := s.toks) (fun b o hb e => eb b o hb e) f0 f1 f3 f4 f5⟩
  self := fun A i s Q E st h => wpAny_pyIter_rangeiter st h
def RgC (i j c : Int) (n : Nat) : Prop := c ≠ 0 ∧ c.natAbs < 1073741824 ∧ Builtin.Range.small i j c = true ∧ Builtin.Range.rangeSize i j c = n
def iRng3 (ta : TA) : TI := fun σ H R => ta σ H fun vs H1 => ∃ (i j c : Int) (n : Nat), vs = [.int i, .int j, .int c] ∧ RgC i j c n ∧ R (Itc i c n) H1
section
variable {X : Cx} {tg : Expr}
theorem pi_range3 {a b c : Expr} {ta : TA} {p pos : Pos} (hg : Gl X "range") (hm : X.mg "range" = none) (ha : PA X [a, b, c] ta)
    (hs : starEach [a, b, c] X.env = (false, eval a X.env) :: starEach [b, c] X.env := by rfl) (hpl : (backTo pos (starEach [b, c] X.env)).any (·.1) = false := by rfl) :
    PI X tg (.Call (.Name "range" p) [a, b, c] [] pos) (iRng3 ta) := by
  intro pins s σ H R I h
  refine Call_ (ld_blt I hg hm boot_range (PyProof.Rows.callWith_type1 (thn (ha pos pins s σ H _ I h) fun us s1 ⟨vs, H1, I1, r1, q1⟩ => ?_) hs hpl))
  obtain ⟨i, j, k, n, e, ⟨c0, c1, c2, c3⟩, q⟩ := q1
  subst e
  cases r1 with
  | cons r rr =>
    cases rr with
    | cons r' rr =>
      cases rr with
      | cons r'' rr =>
        cases rr
        obtain ⟨t, rfl⟩ := r
        obtain ⟨t', rfl⟩ := r'
        obtain ⟨t'', rfl⟩ := r''
        refine call_range_3 c0 ?_ (.inl (PyProof.noPylong_small c1))
        refine wpAny_pyIter_range (IsRange.new ..) c2 ?_
        have I2 : Inv X pins σ H1 { s1 with heap := s1.heap.push { cls := .type "range", data := .fields #[.int i t, .int j t', .int k t''] } } := I1.kept (t' := s1.toks) fun b o e => Heap.get?_push_of_some _ e
        refine pi_one (tk := s1.toks) I2 _ (turn_rangeC _ i k n) ?_ q
        have e1 : i + ((0 : Nat) : Int) * k = i := by simp
        have e2 : (n : Int) - ((0 : Nat) : Int) = Builtin.Range.rangeSize i j k := by rw [c3]; simp
        show IsRangeIter _ _ (i + ((0 : Nat) : Int) * k) ((n : Int) - ((0 : Nat) : Int)) k
        rw [e1, e2]
        exact Heap.get?_push_size _ rfl
end
section
variable {X : Cx} {tg : Expr}
end
def Its (x : Str) : It := ⟨fun i _ => i < x.cps.size, fun i H v H' => H' = H ∧ ∃ c, x.cps[i]? = some c ∧ v = .str ⟨#[c]⟩, fun i _ => x.cps.size ≤ i⟩
theorem turn_str {P : Program} {w : World} {K : PySem.W.Frag} {tg : Expr} (it : Addr) (x : Str) (t : Tok) (ty : String) (hty : ty = "str_ascii_iterator" ∨ ty = "str_iterator") :
    Turn P w K tg (Its x) [it] it (fun i h => h.IsStrIter it ty x t i) where
  mem := by simp
  obj := fun i h st b hb => by
    have e : b = it := by simpa using hb
    subst e
    obtain ⟨o, e, c, d⟩ := st
    exact ⟨o, e, fun v z => by rw [d] at z; cases z⟩
  keep := fun i h h' st k => let ⟨o, ho, r⟩ := st; ⟨o, k it (by simp) o ho, r⟩
  item := by
    intro X hP hw hK hc i pins s σ H E I hf st hg
    subst hP hw hK
    obtain ⟨f0, f1, f2, f3, f4, f5⟩ := hf it (by simp)
    have W : Walks X.prog X.w X.A it [it] [it] x.cps.size (SignAt x) (fun i h => h.IsStrIter it ty x t i) := by
      rcases hty with e | e
      · rw [e]; exact Walks.strAscii (I.ok.hd hc) it x t
      · rw [e]; exact Walks.strWide (I.ok.hd hc) it x t
    have hno : ["enumerate", "zip", "dict_itemiterator", "dict_reverseitemiterator", "odict_iterator", "itertools.zip_longest", "itertools.pairwise"].contains ty = false := by
      rcases hty with e | e
      · rw [e]; decide
      · rw [e]; decide
    refine W.item i s _ _ hg st fun v h' tk hv st' kk => ?_
    obtain ⟨c, u, hcx, rfl⟩ := hv
    have I1 : Inv X pins σ H { s with heap := h', toks := tk } := I.turned (fun b o hb e => kk b o (by simpa using hb) e) f0 f1 f3 f4 f5
    obtain ⟨oi, e, cc, dd⟩ := id st'
    exact ⟨_, rfl, go_of (s := { s with heap := h', toks := tk }) e cc dd hno ⟨.str ⟨#[c]⟩, H, I1, ⟨u, rfl⟩, ⟨rfl, c, hcx, rfl⟩, st', fun b hb => (hf b hb).1⟩⟩
  done := by
    intro X hP hw hK hc i pins s σ H E I hf st hg
    subst hP hw hK
    obtain ⟨f0, f1, f2, f3, f4, f5⟩ := hf it (by simp)
    have hx : x.cps[i]? = none := Array.getElem?_eq_none hg
    rcases hty with e | e
    · rw [e] at st
      exact wpAny_pyNext_ascii_end (I.ok.hd hc) st hx fun h' eb => ⟨rfl, I.turned (t' := s.toks) (fun b o hb e => eb b o hb e) f0 f1 f3 f4 f5⟩
    · rw [e] at st
      exact wpAny_pyNext_wide_end (I.ok.hd hc) st hx fun h' eb => ⟨rfl, I.turned (t' := s.toks) (fun b o hb e => eb b o hb e) f0 f1 f3 f4 f5⟩
  self := fun A i s Q E st h => by
    rcases hty with e | e
    · rw [e] at st; exact wpAny_pyIter_striter_ascii st h
    · rw [e] at st; exact wpAny_pyIter_striter_wide st h
def iStr (te : TE) : TI := fun σ H R => te σ H fun v H1 => ∃ x, v = .str x ∧ R (Its x) H1
theorem pi_str {X : Cx} {tg e : Expr} {te : TE} (he : PE X e te) : PI X tg e (iStr te) := by
  intro pins s σ H R I h
  refine thn (he pins s σ H _ I h) fun v s1 ⟨y, H1, I1, r1, x, ex, q⟩ => ?_
  subst ex
  obtain ⟨t, rfl⟩ := r1
  cases ha : x.cps.all (· < 128)
  · exact wpAny_pyIter_wide ha (pi_one (tk := s1.toks) I1 _ (turn_str _ x t "str_iterator" (.inr rfl)) ⟨_, Heap.get?_push_size _ rfl, rfl, rfl⟩ q)
  · exact wpAny_pyIter_ascii ha (pi_one (tk := s1.toks) I1 _ (turn_str _ x t "str_ascii_iterator" (.inl rfl)) ⟨_, Heap.get?_push_size _ rfl, rfl, rfl⟩ q)
section
variable {prog : Program} {w : World} {A : Around} {E : Value → Shared → Prop} {s : Shared}
end
section
variable {X : Cx} {pins : List (Addr × Obj)} {σ : St} {H : Hp} {s : Shared} {d : Addr} {o : Obj}
end
section
variable {P : Program} {w : World} {K : PySem.W.Frag} {tg : Expr} {d : Addr} {o : Obj} {es : Array DictEntry} {ep : Nat}
end
section
variable {X : Cx} {tg e : Expr} {td : TE} {apos cpos : Pos}
end
theorem boot_zip5 : bootBuiltins "zip" = some (.type "zip") := by decide +kernel
def Itz (K : PySem.W.Frag) (a b : Addr) : It :=
  ⟨fun i H => ∃ (xs ys : List V) (x y : V), SqL K H a xs ∧ SqL K H b ys ∧ xs[i]? = some x ∧ ys[i]? = some y,
    fun i H v H' => ∃ T x y, v = .ref T ∧ H T = none ∧ H' = upd H T (.tup [x, y]) ∧ (∀ xs, SqL K H a xs → xs[i]? = some x) ∧ ∀ ys, SqL K H b ys → ys[i]? = some y,
    fun i H => ∃ xs ys : List V, SqL K H a xs ∧ SqL K H b ys ∧ (xs.length ≤ i ∨ ys.length ≤ i)⟩
theorem turn_zip {P : Program} {w : World} {K : PySem.W.Frag} {elts : List Expr} {kk : Nat} {tpos : Pos} {a b z TI TO i1 i2 : Addr} (D : ZipApart z TI TO i1 i2 a b) :
    Turn P w K (.Tuple elts kk tpos) (Itz K a b) [z, TI, TO, i1, i2] z (fun i h => IsZip h z TI TO .none ∧ IsPair h TI (.ref i1) (.ref i2) ∧ (∃ x y, IsPair h TO x y) ∧ h.IsListIter i1 a i ∧ h.IsListIter i2 b i) where
  mem := by simp
  obj := fun i h st c hc => by
    obtain ⟨hz, hTI, ⟨x, y, hTO⟩, ⟨o1, e1, _, d1⟩, ⟨o2, e2, _, d2⟩⟩ := st
    have e' : c = z ∨ c = TI ∨ c = TO ∨ c = i1 ∨ c = i2 := by simpa using hc
    rcases e' with q | q | q | q | q
    · rw [q]; exact ⟨_, hz, fun v q => nomatch q⟩
    · rw [q]; exact ⟨_, hTI, fun v q => nomatch q⟩
    · rw [q]; exact ⟨_, hTO, fun v q => nomatch q⟩
    · rw [q]; exact ⟨o1, e1, fun v q => by rw [d1] at q; cases q⟩
    · rw [q]; exact ⟨o2, e2, fun v q => by rw [d2] at q; cases q⟩
  keep := fun i h h' st k => by
    obtain ⟨hz, hTI, ⟨x, y, hTO⟩, h1, h2⟩ := st
    exact ⟨k z (by simp) _ hz, k TI (by simp) _ hTI, ⟨x, y, k TO (by simp) _ hTO⟩, h1.at fun o q => k i1 (by simp) o q, h2.at fun o q => k i2 (by simp) o q⟩
  item := by
    intro X hP hw hK hc i pins s σ H E I hf st hg
    subst hP hw hK
    obtain ⟨hz, hTI, ⟨x0, y0, hTO⟩, h1, h2⟩ := st
    obtain ⟨xs, ys, x, y, hqx, hqy, hx, hy⟩ := hg
    obtain ⟨its, rv, p, _⟩ := I.list hqx
    obtain ⟨its2, rv2, p2, _⟩ := I.list hqy
    obtain ⟨u, hu, ru⟩ := rv.get hx
    obtain ⟨u2, hu2, ru2⟩ := rv2.get hy
    have hzl : z < s.heap.objs.size := Heap.lt_size hz
    refine wpAny_pyNext_zip_item D hz hTI hTO h1 h2 p.isList p2.isList (x := u) (y := u2) (by simpa using hu) (by simpa using hu2) fun h' z' TO' h1' h2' hT hsz hk => ?_
    refine ⟨_, rfl, wpAny_letOwnedTupleGo_zip (s := { s with heap := h' }) z' fun h'' z'' sb => ?_⟩
    have hT2 : h''.get? s.heap.objs.size = some { cls := .type "tuple", data := .seq #[u, u2] } := (sb.2 _ (Nat.ne_of_gt hzl)).trans hT
    have new : ObjOk X.prog X.w (upd H s.heap.objs.size (.tup [x, y])) h'' s.heap.objs.size (.tup [x, y]) :=
      ⟨by show 2 ≤ sizeLine; decide, [u, u2], .cons ru (.cons ru2 .nil), ⟨_, hT2, rfl, _, rfl⟩⟩
    have I1 : Inv X pins σ (upd H s.heap.objs.size (.tup [x, y])) { s with heap := h'' } :=
      I.turnedNew (t' := s.toks) (ch := [z, TI, TO, i1, i2]) (fun c o hb q => (sb.2 c (fun q' => hb (by simp [q']))).trans (hk c o (fun q' => hb (by simp [q'])) (fun q' => hb (by simp [q'])) (fun q' => hb (by simp [q'])) (fun q' => hb (by simp [q'])) q)) hf (Nat.le_refl _) new
    refine ⟨.ref s.heap.objs.size, _, I1, rfl, ⟨_, x, y, rfl, I.hok.fresh (Nat.le_refl _), rfl, fun l hl => by rw [I.list_inj hl hqx]; exact hx, fun l hl => by rw [I.list_inj hl hqy]; exact hy⟩, ⟨z'', ?_, ⟨u, u2, ?_⟩, ?_, ?_⟩, fun c hcm => ?_⟩
    · exact (sb.2 _ D.TIz).trans (hk _ _ D.TIz D.TITO D.TIi1 D.TIi2 hTI)
    · exact (sb.2 _ D.TOz).trans TO'
    · exact h1'.at fun o q => (sb.2 _ D.i1z).trans q
    · exact h2'.at fun o q => (sb.2 _ D.i2z).trans q
    · have hlt : c < s.heap.objs.size := by
        have e' : c = z ∨ c = TI ∨ c = TO ∨ c = i1 ∨ c = i2 := by simpa using hcm
        rcases e' with q | q | q | q | q
        · rw [q]; exact hzl
        · rw [q]; exact Heap.lt_size hTI
        · rw [q]; exact Heap.lt_size hTO
        · rw [q]; obtain ⟨_, e1, _⟩ := h1; exact Heap.lt_size e1
        · rw [q]; obtain ⟨_, e2, _⟩ := h2; exact Heap.lt_size e2
      rw [upd_ne (Nat.ne_of_lt hlt)]
      exact (hf c hcm).1
  done := by
    intro X hP hw hK hc i pins s σ H E I hf st hg
    subst hP hw hK
    obtain ⟨hz, hTI, ⟨x0, y0, hTO⟩, h1, h2⟩ := st
    obtain ⟨xs, ys, hqx, hqy, hend⟩ := hg
    obtain ⟨its, rv, p, _⟩ := I.list hqx
    obtain ⟨its2, rv2, p2, _⟩ := I.list hqy
    have l1 := rv.length
    have l2 := rv2.length
    have he : its.toArray[i]? = none ∨ its2.toArray[i]? = none := by
      rcases hend with q | q
      · exact .inl (by simp; omega)
      · exact .inr (by simp; omega)
    exact wpAny_pyNext_zip_end (I.ok.hd hc) D hz hTI hTO h1 h2 p.isList p2.isList he fun h' hk => ⟨rfl, I.turnedL (t' := s.toks) (ch := [z, TI, TO, i1, i2]) (fun c o hb q =>
      hk c o (fun q' => hb (by simp [q'])) (fun q' => hb (by simp [q'])) (fun q' => hb (by simp [q'])) (fun q' => hb (by simp [q'])) q) hf⟩
  self := fun A i s Q E st h => wpAny_pyIter_zip st.1 h
def iZip (K : PySem.W.Frag) (ta : TA) : TI := fun σ H R => ta σ H fun vs H1 => ∃ a b xs ys, vs = [.ref a, .ref b] ∧ SqL K H1 a xs ∧ SqL K H1 b ys ∧ R (Itz K a b) H1
theorem pi_zip {X : Cx} {e e2 : Expr} {ta : TA} {p pos tpos : Pos} {elts : List Expr} {kk : Nat} (hg : Gl X "zip") (hm : X.mg "zip" = none) (ha : PA X [e, e2] ta)
    (hs : starEach [e, e2] X.env = (false, eval e X.env) :: starEach [e2] X.env := by rfl) (hpl : (backTo pos (starEach [e2] X.env)).any (·.1) = false := by rfl) :
    PI X (.Tuple elts kk tpos) (.Call (.Name "zip" p) [e, e2] [] pos) (iZip X.K ta) := by
  intro pins s σ H R I h
  refine Call_ (ld_blt I hg hm boot_zip5 (PyProof.Rows.callWith_type1 (thn (ha pos pins s σ H _ I h) fun us s1 ⟨vs, H1, I1, r1, q1⟩ => ?_) hs hpl))
  obtain ⟨a, b, xs, ys, ex, hqx, hqy, q⟩ := q1
  subst ex
  cases r1 with
  | cons r rr =>
    cases rr with
    | cons r' rr =>
      cases rr
      cases r
      cases r'
      obtain ⟨its, rv, p1, _⟩ := I1.list hqx
      obtain ⟨its2, rv2, p2, _⟩ := I1.list hqy
      have la : a < s1.heap.objs.size := p1.lt
      have lb : b < s1.heap.objs.size := p2.lt
      refine call_zip_2 p1.isList p2.isList fun h' hz hTI hTO h1 h2 hsz hk => wpAny_pyIter_zip hz ?_
      have I2 : Inv X pins σ H1 { s1 with heap := h' } := I1.kept (t' := s1.toks) hk
      refine ⟨s1.heap.objs.size + 4, [s1.heap.objs.size + 4, s1.heap.objs.size + 2, s1.heap.objs.size + 3, s1.heap.objs.size, s1.heap.objs.size + 1], _, _, H1, rfl, I2, turn_zip (PySem.W.ktu_apart s1.heap.objs.size a b la lb), ⟨hz, hTI, ⟨_, _, hTO⟩, h1, h2⟩, fun c hcm => ?_, q⟩
      have e' : c = s1.heap.objs.size + 4 ∨ c = s1.heap.objs.size + 2 ∨ c = s1.heap.objs.size + 3 ∨ c = s1.heap.objs.size ∨ c = s1.heap.objs.size + 1 := by simpa using hcm
      have hle : s1.heap.objs.size ≤ c := by
        rcases e' with z | z | z | z | z
        · rw [z]; exact Nat.le_add_right _ _
        · rw [z]; exact Nat.le_add_right _ _
        · rw [z]; exact Nat.le_add_right _ _
        · rw [z]; exact Nat.le_refl _
        · rw [z]; exact Nat.le_add_right _ _
      exact I1.fpOk hle (I1.hok.fresh hle)
end L2
section
namespace Bits
open PySem PyProof.Rows
end Bits
end
section
namespace TL
open PySem PySem.Builtin PySem.Builtin.Str PySem.StrLaws
end TL
end
namespace L2
open PySem PySem.Spec PyProof.Rows
section
variable {X : Cx} {pins : List (Addr × Obj)} {σ : St} {H : Hp} {s : Shared} {Q : VK}
end
section
variable {X : Cx}
end
section
variable {X : Cx} {o e : Expr} {to te : TE}
end
end L2
namespace L2
open PySem PySem.Spec PyProof.Rows
section
variable {X : Cx}
end
end L2
namespace Att
open PySem PySem.W PySem.Calls PyProof.Rows
section
variable {prog : Program} {w : World} {A : Around} {E : Value → Shared → Prop} {s : Shared} {K : Frag}
end
end Att
namespace L2
open PySem PySem.Spec PyProof.Rows
end L2
namespace L2
open PySem PySem.Spec PyProof.Rows
end L2
namespace L2
open PySem PySem.Spec PyProof.Rows
def inClass (s : Stmt) (j : Nat) : Stmt := match s with
  | .ClassDef _ _ _ body _ _ _ _ _ _ _ => body.getD j (.Pass ⟨0, 0, 0, 0⟩)
  | _ => .Pass ⟨0, 0, 0, 0⟩
def defArgs (s : Stmt) : Arguments := match s with
  | .FunctionDef _ a _ _ _ _ _ _ _ _ => a
  | _ => { posonlyargs := [], args := [], vararg := none, kwonlyargs := [], kw_defaults := [], kwarg := none, defaults := [] }
def defBody (s : Stmt) : List Stmt := match s with
  | .FunctionDef _ _ b _ _ _ _ _ _ _ => b
  | _ => []
def defScope (s : Stmt) : Scope := match s with
  | .FunctionDef _ _ _ _ _ _ sc _ _ _ => sc
  | _ => { kind := .function, names := [], isGenerator := false, isCoroutine := false }
abbrev CX0 : CXT := fun _ _ _ _ _ _ => False
abbrev E0 : XK := fun _ _ _ => False
theorem pass0 {X : Cx} : Passes CX0 X E0 := fun _ _ _ _ _ _ _ h => h.elim
structure Fun (K : PySem.W.Frag) (x qual : Str) (st : Stmt) (f : Addr) (fd : FuncData) : Prop where
  ex : ∃ (oc : Value) (od : Option Addr) (kV doc pm : Value) (an : Option Addr) (cdv ct : Value) (osl : Array (Option Value)),
    fd = PySem.W.fnOf x qual (defArgs st) (defBody st) (defScope st) .none kV doc pm an cdv ct ∧ K.lookup f = some ⟨oc, od, .func fd, osl⟩ ∧ PySem.W.codeIn K cdv qual = true
  kp : PySem.W.keepIn K (.ref f) = true
section
variable {P : Program} {w : World} {K : PySem.W.Frag} {mg : Str → Option Value} {base : Heap}
theorem Fun.ok {x qual : Str} {st : Stmt} {f : Addr} {fd : FuncData} {N ps : List Str} {k : Nat} {sp : Sp} (F : Fun K x qual st f fd) (S : FnScope N ps (defScope st)) (len : ∀ vs H Q E, sp vs H Q E → vs.length = ps.length)
    (hbody : ∀ (cdv : Value) (A : Around) (outer : List Env) (s : Shared) (H : Hp) (vs : List V) (Q : VK) (E : XK), Room k (A.deeper (envOfC qual (defScope st) s.heap.objs.size f cdv)) → sp vs H Q E →
      ∃ t, PSs (cxOf CX0 P w K mg base N qual (defScope st) f cdv A outer s H E).nox (defBody st) t ∧ t { nx := fun _ H' => Q .non H', rt := Q } (start N vs) H) : FnOk P w K mg base CX0 (k + 1) f fd ps sp := by
  obtain ⟨oc, od, kV, doc, pm, an, cdv, ct, osl, rfl, lk, hcd⟩ := F.ex
  refine fn_of lk hcd S len fun A outer s H vs Q E hr hsp => ?_
  obtain ⟨t, h, q⟩ := hbody cdv A outer s H vs Q E hr hsp
  exact ⟨t, h.nox, q⟩
theorem Fun.binds {x qual : Str} {st : Stmt} {f : Addr} {fd : FuncData} {ps : List Str} (F : Fun K x qual st f fd)
    (h : ∀ (kV doc pm : Value) (an : Option Addr) (cdv ct : Value) (us : List Value), us.length = ps.length → bindArgs (PySem.W.fnOf x qual (defArgs st) (defBody st) (defScope st) .none kV doc pm an cdv ct) ⟨us, []⟩ = pure (ps.zip us)) : Binds K fd ps [] := by
  obtain ⟨oc, od, kV, doc, pm, an, cdv, ct, osl, rfl, lk, hcd⟩ := F.ex
  exact .all (h kV doc pm an cdv ct)
theorem fun_mk {x qual : Str} {st : Stmt} {f : Addr} {oc : Value} {od an : Option Addr} {osl : Array (Option Value)} {kV doc pm cdv ct : Value} (l : K.lookup f = some ⟨oc, od, .func (PySem.W.fnOf x qual (defArgs st) (defBody st) (defScope st) .none kV doc pm an cdv ct), osl⟩)
    (c : PySem.W.codeIn K cdv qual = true) (k : PySem.W.keepIn K (.ref f) = true) : Fun K x qual st f (PySem.W.fnOf x qual (defArgs st) (defBody st) (defScope st) .none kV doc pm an cdv ct) := ⟨⟨oc, od, kV, doc, pm, an, cdv, ct, osl, rfl, l, c⟩, k⟩
end
section
variable {X : Cx}
theorem pv (i : Nat) {x : Str} {pos : Pos} (hN : X.N[i]? = some x := by rfl) (hv : Vis X.env.scope x := by first | exact Or.inl rfl | exact Or.inr (Or.inl rfl) | exact Or.inr (Or.inr rfl)) (hd : (x == ("__debug__" : Str)) = false := by decide)
    (hcd : (x == ("__classdict__" : Str)) = false := by decide) : PE X (.Name x pos) (tVar i) := pe_var hN hv hd hcd
end
theorem iteF {A B : Prop} (h : B) : if false = true then A else B := by
  rw [if_neg Bool.false_ne_true]
  exact h
theorem iteT {A B : Prop} (h : A) : if true = true then A else B := by
  rw [if_pos rfl]
  exact h
theorem ite2 {c A B : Prop} [Decidable c] (h1 : c → A) (h2 : ¬ c → B) : if c then A else B := by
  by_cases h : c
  · rw [if_pos h]
    exact h1 h
  · rw [if_neg h]
    exact h2 h
def Same (H H' : Hp) : Prop := ∀ b o, H b = some o → H' b = some o
theorem Same.refl (H : Hp) : Same H H := fun _ _ h => h
theorem Same.trans {H H1 H2 : Hp} (a : Same H H1) (b : Same H1 H2) : Same H H2 := fun c o h => b c o (a c o h)
theorem Same.free {H H' : Hp} (e : Same H H') {l : Addr} (h : H' l = Option.none) : H l = Option.none := by
  cases q : H l with
  | none => rfl
  | some o =>
    rw [e l o q] at h
    cases h
section
variable {κ : Type} [DecidableEq κ]
end
theorem at_of {xs : List V} {z : Int} {j : Nat} {v : V} (e : z = (j : Int)) (h : xs[j]? = some v) : atI xs z = some v := by
  rw [e]
  exact atI_nat h
theorem Same.made {H H1 : Hp} {x dx C : Addr} (nx : H x = Option.none) (nd : H dx = Option.none) (k : ∀ b o, (upd (upd H dx (.own x)) x (.ins C dx [])) b = some o → b ≠ x → H1 b = some o) : Same H H1 := fun b o e =>
  k b o (by rw [upd_ne (ne_of_none e nx), upd_ne (ne_of_none e nd)]; exact e) (ne_of_none e nx)
end L2
end
section
section
namespace Att
open PySem PySem.W PySem.Calls PyProof.Rows
section
variable {prog : Program} {w : World} {A : Around} {E : Value → Shared → Prop} {s : Shared} {K : Frag}
end
end Att
namespace L2
open PySem PySem.Spec PyProof.Rows
end L2
namespace L2
open PySem PySem.Spec PyProof.Rows
end L2
end
section
set_option maxHeartbeats 2000000
namespace L2
open PySem PySem.Spec PyProof.Rows
open PySem.W (WData Codec OpenSpec Well WellAll ReadsW ReadsAllW)
mutual
inductive Dw (K : PySem.W.Frag) (H : Hp) : V → WData → Prop
  | non : Dw K H .non .none
  | bl (b : Bool) : Dw K H (.bl b) (.bool b)
  | int (i : Int) : Dw K H (.int i) (.int i)
  | str (x : Str) : Dw K H (.str x) (.str x)
  | byt (b : Array UInt8) : Dw K H (.byt b) (.bytes b.toList)
  | lst {a : Addr} {xs : List V} {ds : List WData} : SqL K H a xs → DwAll K H xs ds → Dw K H (.ref a) (.list ds)
  | tup {a : Addr} {xs : List V} {ds : List WData} : SqT K H a xs → DwAll K H xs ds → Dw K H (.ref a) (.tuple ds)
inductive DwAll (K : PySem.W.Frag) (H : Hp) : List V → List WData → Prop
  | nil : DwAll K H [] []
  | cons {v : V} {vs : List V} {d : WData} {ds : List WData} : Dw K H v d → DwAll K H vs ds → DwAll K H (v :: vs) (d :: ds)
end
theorem dw_ints {K : PySem.W.Frag} {H : Hp} : ∀ ns : List Int, DwAll K H (ns.map V.int) (ns.map WData.int)
  | [] => .nil
  | n :: r => .cons (.int n) (dw_ints r)
theorem ints_dw {K : PySem.W.Frag} {H : Hp} : ∀ (ns : List Int) (xs : List V), DwAll K H xs (ns.map WData.int) → xs = ns.map V.int
  | [], xs, h => by
    cases h
    rfl
  | n :: r, xs, h => by
    cases h with
    | cons h1 h2 =>
      cases h1
      rw [ints_dw r _ h2] <;> rfl
section
variable {P : Program} {w : World} {K : PySem.W.Frag} {H : Hp} {h : Heap} {R : PySem.W.WRecords} {cl : Str → Option Addr}
theorem sqL_at {a : Addr} {xs : List V} (hok : HOk P w H h) (KX : K.In h) (q : SqL K H a xs) : ∃ (its : List Value) (o : Obj) (n : Nat), Vals xs its ∧ h.get? a = some o ∧ o.cls = .type "list" ∧ o.data = .seq its.toArray n := by
  rcases q with q | ⟨o, its, n, e, hc, _, hd, _, hv⟩
  · obtain ⟨_, its, n, hv, e⟩ := (show ObjOk P w H h a (.lst xs) from q.ok hok)
    exact ⟨its, _, n, hv, e, rfl, rfl⟩
  · exact ⟨its.toList, o, n, hv, KX _ _ e, hc, by simp [hd]⟩
theorem sqT_at {a : Addr} {xs : List V} (hok : HOk P w H h) (KX : K.In h) (q : SqT K H a xs) : ∃ (its : List Value) (o : Obj) (n : Nat), Vals xs its ∧ h.get? a = some o ∧ o.cls = .type "tuple" ∧ o.data = .seq its.toArray n := by
  rcases q with q | ⟨o, its, n, e, hc, hd, _, hv⟩
  · obtain ⟨_, its, hv, o, e, hc, n, hd⟩ := (show ObjOk P w H h a (.tup xs) from q.ok hok)
    exact ⟨its, o, n, hv, e, hc, hd⟩
  · exact ⟨its.toList, o, n, hv, KX _ _ e, hc, by simp [hd]⟩
mutual
theorem Dw.reads (hok : HOk P w H h) (KX : K.In h) : ∀ (d : WData) (v : V) (u : Value), Dw K H v d → RelV v u → ∃ as, ReadsW R cl h u d as
  | .none, _, _, x, r => by
    cases x
    cases r
    exact ⟨_, ReadsW.none⟩
  | .bool b, _, _, x, r => by
    cases x
    cases r
    exact ⟨_, ReadsW.bool b⟩
  | .int i, _, _, x, r => by
    cases x
    obtain ⟨t, rfl⟩ := r
    exact ⟨_, ReadsW.int i t⟩
  | .str s, _, _, x, r => by
    cases x
    obtain ⟨t, rfl⟩ := r
    exact ⟨_, ReadsW.str s t⟩
  | .bytes b, _, _, x, r => by
    cases x
    obtain ⟨t, rfl⟩ := r
    exact ⟨_, ReadsW.bytes _ t⟩
  | .list ds, _, _, x, r => by
    cases x with
    | lst hs ha =>
      cases r
      obtain ⟨its, o, n, rv, ho, hc, hd⟩ := sqL_at hok KX hs
      obtain ⟨as, hr⟩ := Dw.readsAll hok KX ds _ its ha rv
      exact ⟨_, ReadsW.list ho hc hd hr⟩
  | .tuple ds, _, _, x, r => by
    cases x with
    | tup hs ha =>
      cases r
      obtain ⟨its, o, n, rv, ho, hc, hd⟩ := sqT_at hok KX hs
      obtain ⟨as, hr⟩ := Dw.readsAll hok KX ds _ its ha rv
      exact ⟨_, ReadsW.tuple ho hc hd hr⟩
  | .float _, _, _, x, _ => by cases x
  | .dict _, _, _, x, _ => by cases x
  | .bytearray _, _, _, x, _ => by cases x
  | .set _, _, _, x, _ => by cases x
  | .frozenset _, _, _, x, _ => by cases x
  | .obj _ _, _, _, x, _ => by cases x
theorem Dw.readsAll (hok : HOk P w H h) (KX : K.In h) : ∀ (ds : List WData) (vs : List V) (us : List Value), DwAll K H vs ds → Vals vs us → ∃ as, ReadsAllW R cl h us ds as
  | [], _, _, x, r => by
    cases x
    cases r
    exact ⟨_, ReadsAllW.nil⟩
  | d :: ds, _, _, x, r => by
    cases x with
    | cons h1 h2 =>
      cases r with
      | cons r1 r2 =>
        obtain ⟨as, q1⟩ := Dw.reads hok KX d _ _ h1 r1
        obtain ⟨bs, q2⟩ := Dw.readsAll hok KX ds _ _ h2 r2
        exact ⟨_, ReadsAllW.cons q1 q2⟩
end
end
mutual
def plW : WData → Bool
  | .none => true
  | .bool _ => true
  | .int _ => true
  | .str _ => true
  | .bytes _ => true
  | .list xs => plWs xs
  | .tuple xs => plWs xs
  | _ => false
def plWs : List WData → Bool
  | [] => true
  | x :: r => plW x && plWs r
end
theorem plWs_map {α : Type} {f : α → WData} (h : ∀ a, plW (f a) = true) : ∀ l : List α, plWs (l.map f) = true
  | [] => rfl
  | x :: r => by
    show (plW (f x) && plWs (r.map f)) = true
    rw [h x, plWs_map h r] <;> rfl
theorem pl_enc : ∀ (c : Codec) (a : c.denote), plW (c.enc a) = true
  | .unit, _ => rfl
  | .bool, _ => rfl
  | .int _ _, _ => rfl
  | .nat _ _, _ => rfl
  | .u8, _ => rfl
  | .bytes _ _, _ => rfl
  | .text _ _ _ _, _ => rfl
  | .list _ _ c, a => plWs_map (fun x => pl_enc c x) a
  | .pair c d, a => by
    show (plW (c.enc a.1) && (plW (d.enc a.2) && true)) = true
    rw [pl_enc c a.1, pl_enc d a.2] <;> rfl
  | .triple c d e, a => by
    show (plW (c.enc a.1) && (plW (d.enc a.2.1) && (plW (e.enc a.2.2) && true))) = true
    rw [pl_enc c a.1, pl_enc d a.2.1, pl_enc e a.2.2] <;> rfl
  | .option c, none => rfl
  | .option c, some x => pl_enc c x
theorem pl_encAll : ∀ (cs : List Codec) (a : Codec.denoteAll cs), plWs (Codec.encAll cs a) = true
  | [], _ => rfl
  | c :: cs, a => by
    show (plW (c.enc a.1) && plWs (Codec.encAll cs a.2)) = true
    rw [pl_enc c a.1, pl_encAll cs a.2] <;> rfl
theorem weight_mem : ∀ {xs : List WData} {d : WData}, d ∈ xs → d.weight ≤ WData.weightAll xs
  | [], d, h => absurd h (by simp)
  | x :: r, d, h => by
    show d.weight ≤ x.weight + 1 + WData.weightAll r
    rcases List.mem_cons.mp h with e | m
    · rw [e]
      omega
    · have z := weight_mem m
      omega
def toV : Value → V
  | .none => .non
  | .bool b => .bl b
  | .int i _ => .int i
  | .str x _ => .str x
  | .bytes b _ => .byt b
  | .ref a => .ref a
  | _ => .non
def OkU (A : List Addr) : Value → Prop
  | .none => True
  | .bool _ => True
  | .int _ _ => True
  | .str _ _ => True
  | .bytes _ _ => True
  | .ref a => a ∈ A
  | _ => False
theorem OkU.mono {A B : List Addr} (h : ∀ a ∈ A, a ∈ B) : ∀ {u : Value}, OkU A u → OkU B u := fun {u} x => by
  cases u with
  | ref a => exact h a x
  | none => trivial
  | bool b => trivial
  | int i t => trivial
  | str s t => trivial
  | bytes b t => trivial
  | _ => exact False.elim x
theorem relV_toV {A : List Addr} {u : Value} (x : OkU A u) : RelV (toV u) u := by
  cases u with
  | ref a => rfl
  | none => rfl
  | bool b => rfl
  | int i t => exact ⟨t, rfl⟩
  | str s t => exact ⟨t, rfl⟩
  | bytes b t => exact ⟨t, rfl⟩
  | _ => exact False.elim x
theorem vals_toV {A : List Addr} : ∀ {vs : List Value}, (∀ u ∈ vs, OkU A u) → Vals (vs.map toV) vs
  | [], _ => .nil
  | u :: r, h => .cons (relV_toV (h u (List.mem_cons_self ..))) (vals_toV fun x hx => h x (List.mem_cons_of_mem _ hx))
def ArgOb (h : Heap) (A : List Addr) (a : Addr) : Prop := ∃ vs : List Value, vs.length ≤ sizeLine ∧ (∀ u ∈ vs, OkU A u) ∧
  (h.get? a = some { cls := .type "list", data := .seq vs.toArray } ∨ h.get? a = some { cls := .type "tuple", data := .seq vs.toArray })
theorem ArgOb.mono {h : Heap} {A B : List Addr} {a : Addr} (k : ∀ a ∈ A, a ∈ B) (x : ArgOb h A a) : ArgOb h B a := by
  obtain ⟨vs, h1, h2, h3⟩ := x
  exact ⟨vs, h1, fun u hu => (h2 u hu).mono k, h3⟩
theorem wellAll_len {P : Params} {h : Heap} : ∀ {vs : List Value} {ds : List WData}, WellAll P h vs ds → vs.length = ds.length
  | _, _, .nil => rfl
  | _, _, .cons _ b => by
    show _ + 1 = _ + 1
    rw [wellAll_len b]
theorem well_list {P : Params} {h : Heap} {v : Value} {ds : List WData} (x : Well P h v (.list ds)) : ∃ (a : Addr) (vs : List Value), v = .ref a ∧ h.get? a = some { cls := .type "list", data := .seq vs.toArray } ∧ WellAll P h vs ds := by
  cases x with
  | list ho hall => exact ⟨_, _, rfl, ho, hall⟩
theorem well_tuple {P : Params} {h : Heap} {v : Value} {ds : List WData} (x : Well P h v (.tuple ds)) : ∃ (a : Addr) (vs : List Value), v = .ref a ∧ h.get? a = some { cls := .type "tuple", data := .seq vs.toArray } ∧ WellAll P h vs ds := by
  cases x with
  | tuple ho hall => exact ⟨_, _, rfl, ho, hall⟩
theorem well_cons {P : Params} {h : Heap} {us : List Value} {d : WData} {ds : List WData} (x : WellAll P h us (d :: ds)) : ∃ (v : Value) (vs : List Value), us = v :: vs ∧ Well P h v d ∧ WellAll P h vs ds := by
  cases x with
  | cons a b => exact ⟨_, _, rfl, a, b⟩
theorem line_of {n : Nat} (h : n ≤ 1048576) : n ≤ sizeLine := Nat.le_trans h (by decide)
section
variable {P : Params} {h : Heap}
mutual
theorem area_one : ∀ (d : WData) (v : Value), Well P h v d → plW d = true → d.weight ≤ 1048576 → ∃ A : List Addr, OkU A v ∧ ∀ a ∈ A, ArgOb h A a
  | .none, _, x, _, _ => by
    cases x
    exact ⟨[], trivial, fun a m => absurd m (by simp)⟩
  | .bool b, _, x, _, _ => by
    cases x
    exact ⟨[], trivial, fun a m => absurd m (by simp)⟩
  | .int i, _, x, _, _ => by
    cases x
    exact ⟨[], trivial, fun a m => absurd m (by simp)⟩
  | .str s, _, x, _, _ => by
    cases x
    exact ⟨[], trivial, fun a m => absurd m (by simp)⟩
  | .bytes b, _, x, _, _ => by
    cases x
    exact ⟨[], trivial, fun a m => absurd m (by simp)⟩
  | .list ds, _, x, p, z => by
    obtain ⟨a, vs, rfl, ho, hall⟩ := well_list x
    have z2 : WData.weightAll ds ≤ 1048576 := z
    obtain ⟨A, h1, h2⟩ := area_all ds _ hall p fun d hd => Nat.le_trans (weight_mem hd) z2
    have k : ∀ b ∈ A, b ∈ a :: A := fun b hb => List.mem_cons_of_mem _ hb
    refine ⟨a :: A, List.mem_cons_self .., fun b hb => ?_⟩
    rcases List.mem_cons.mp hb with e | m
    · rw [e]
      exact ⟨vs, line_of (by rw [wellAll_len hall]; exact Nat.le_trans (PySem.W.length_le_weightAllW ds) z2), fun u hu => (h1 u hu).mono k, .inl ho⟩
    · exact (h2 b m).mono k
  | .tuple ds, _, x, p, z => by
    obtain ⟨a, vs, rfl, ho, hall⟩ := well_tuple x
    have z2 : WData.weightAll ds ≤ 1048576 := z
    obtain ⟨A, h1, h2⟩ := area_all ds _ hall p fun d hd => Nat.le_trans (weight_mem hd) z2
    have k : ∀ b ∈ A, b ∈ a :: A := fun b hb => List.mem_cons_of_mem _ hb
    refine ⟨a :: A, List.mem_cons_self .., fun b hb => ?_⟩
    rcases List.mem_cons.mp hb with e | m
    · rw [e]
      exact ⟨vs, line_of (by rw [wellAll_len hall]; exact Nat.le_trans (PySem.W.length_le_weightAllW ds) z2), fun u hu => (h1 u hu).mono k, .inr ho⟩
    · exact (h2 b m).mono k
  | .float _, _, _, p, _ => Bool.noConfusion (show false = true from p)
  | .dict _, _, _, p, _ => Bool.noConfusion (show false = true from p)
  | .bytearray _, _, _, p, _ => Bool.noConfusion (show false = true from p)
  | .set _, _, _, p, _ => Bool.noConfusion (show false = true from p)
  | .frozenset _, _, _, p, _ => Bool.noConfusion (show false = true from p)
  | .obj _ _, _, _, p, _ => Bool.noConfusion (show false = true from p)
theorem area_all : ∀ (ds : List WData) (vs : List Value), WellAll P h vs ds → plWs ds = true → (∀ d ∈ ds, d.weight ≤ 1048576) → ∃ A : List Addr, (∀ u ∈ vs, OkU A u) ∧ ∀ a ∈ A, ArgOb h A a
  | [], _, x, _, _ => by
    cases x
    exact ⟨[], fun u m => absurd m (by simp), fun a m => absurd m (by simp)⟩
  | d :: ds, _, x, p, z => by
    obtain ⟨v, vs, rfl, x1, x2⟩ := well_cons x
    have q : plW d = true ∧ plWs ds = true := Bool.and_eq_true_iff.mp p
    obtain ⟨A, a1, a2⟩ := area_one d v x1 q.1 (z d (List.mem_cons_self ..))
    obtain ⟨B, b1, b2⟩ := area_all ds vs x2 q.2 fun e he => z e (List.mem_cons_of_mem _ he)
    have kA : ∀ b ∈ A, b ∈ A ++ B := fun b hb => List.mem_append.mpr (.inl hb)
    have kB : ∀ b ∈ B, b ∈ A ++ B := fun b hb => List.mem_append.mpr (.inr hb)
    refine ⟨A ++ B, fun u hu => ?_, fun b hb => ?_⟩
    · rcases List.mem_cons.mp hu with e | m
      · rw [e]
        exact a1.mono kA
      · exact (b1 u m).mono kB
    · rcases List.mem_append.mp hb with m | m
      · exact (a2 b m).mono kA
      · exact (b2 b m).mono kB
end
end
def hoOf (o : Obj) : Option HO := match o.data with
  | .seq vs _ => if (o.cls == Value.type "list") = true then some (.frz o (.lst (vs.toList.map toV))) else some (.frz o (.tup (vs.toList.map toV)))
  | _ => none
def argH (K : PySem.W.Frag) (h : Heap) (A : List Addr) : Hp := fun b => if b ∈ A then (if (K.lookup b).isNone = true then (h.get? b).bind hoOf else none) else none
def OnlyF (H : Hp) : Prop := ∀ b, H b = none ∨ ∃ o u, H b = some (.frz o u)
theorem hoOf_lst (vs : List Value) : hoOf { cls := .type "list", data := .seq vs.toArray } = some (.frz { cls := .type "list", data := .seq vs.toArray } (.lst (vs.map toV))) := by
  show (if (Value.type "list" == Value.type "list") = true then some (HO.frz { cls := .type "list", data := .seq vs.toArray } (.lst (vs.toArray.toList.map toV))) else some (HO.frz { cls := .type "list", data := .seq vs.toArray } (.tup (vs.toArray.toList.map toV)))) = _
  rw [if_pos (beq_self_eq_true _)]
theorem hoOf_tup (vs : List Value) : hoOf { cls := .type "tuple", data := .seq vs.toArray } = some (.frz { cls := .type "tuple", data := .seq vs.toArray } (.tup (vs.map toV))) := by
  show (if (Value.type "tuple" == Value.type "list") = true then some (HO.frz { cls := .type "tuple", data := .seq vs.toArray } (.lst (vs.toArray.toList.map toV))) else some (HO.frz { cls := .type "tuple", data := .seq vs.toArray } (.tup (vs.toArray.toList.map toV)))) = _
  rw [if_neg (by decide)]
section
variable {P : Program} {w : World} {K : PySem.W.Frag} {h : Heap} {A : List Addr}
theorem argH_at {b : Addr} {o : Obj} (hb : b ∈ A) (hk : K.lookup b = none) (e : h.get? b = some o) : argH K h A b = hoOf o := by
  unfold argH
  rw [if_pos hb, hk, if_pos (show (none : Option Obj).isNone = true from rfl), e] <;> rfl
theorem of_argH {b : Addr} {u : HO} (q : argH K h A b = some u) : b ∈ A ∧ K.lookup b = none := by
  unfold argH at q
  by_cases hb : b ∈ A
  · rw [if_pos hb] at q
    cases hk : K.lookup b with
    | none => exact ⟨hb, rfl⟩
    | some o =>
      rw [hk, if_neg (by simp)] at q
      cases q
  · rw [if_neg hb] at q
    cases q
theorem argH_is (ar : ∀ a ∈ A, ArgOb h A a) {b : Addr} {u : HO} (q : argH K h A b = some u) : K.lookup b = none ∧ ∃ vs : List Value, vs.length ≤ sizeLine ∧ (∀ u ∈ vs, OkU A u) ∧
    ((h.get? b = some { cls := .type "list", data := .seq vs.toArray } ∧ u = .frz { cls := .type "list", data := .seq vs.toArray } (.lst (vs.map toV))) ∨
     (h.get? b = some { cls := .type "tuple", data := .seq vs.toArray } ∧ u = .frz { cls := .type "tuple", data := .seq vs.toArray } (.tup (vs.map toV)))) := by
  obtain ⟨hb, hk⟩ := of_argH q
  obtain ⟨vs, h1, h2, h3⟩ := ar b hb
  refine ⟨hk, vs, h1, h2, ?_⟩
  rcases h3 with e | e
  · rw [argH_at hb hk e, hoOf_lst] at q
    exact .inl ⟨e, (Option.some.inj q).symm⟩
  · rw [argH_at hb hk e, hoOf_tup] at q
    exact .inr ⟨e, (Option.some.inj q).symm⟩
theorem argH_only (ar : ∀ a ∈ A, ArgOb h A a) : OnlyF (argH K h A) := fun b => by
  cases q : argH K h A b with
  | none => exact .inl rfl
  | some u =>
    obtain ⟨_, vs, _, _, ⟨_, e⟩ | ⟨_, e⟩⟩ := argH_is ar q
    · exact .inr ⟨_, _, by rw [e]⟩
    · exact .inr ⟨_, _, by rw [e]⟩
theorem argH_ok (ar : ∀ a ∈ A, ArgOb h A a) : HOk P w (argH K h A) h := fun b u q => by
  obtain ⟨_, vs, h1, h2, ⟨e, rfl⟩ | ⟨e, rfl⟩⟩ := argH_is ar q
  · exact ⟨e, by rw [List.length_map]; exact h1, vs, _, vals_toV h2, e⟩
  · exact ⟨e, by rw [List.length_map]; exact h1, vs, vals_toV h2, _, e, rfl, _, rfl⟩
theorem seq_inj {c c' : Value} {vs us : List Value} (e : (some { cls := c, data := .seq vs.toArray } : Option Obj) = some { cls := c', data := .seq us.toArray }) : c = c' ∧ vs = us := by
  have e1 := Option.some.inj e
  have e2 : c = c' := congrArg Obj.cls e1
  have e3 : Data.seq vs.toArray = Data.seq us.toArray := congrArg Obj.data e1
  injection e3 with e4
  refine ⟨e2, ?_⟩
  have e5 := congrArg Array.toList e4
  simpa using e5
theorem argL (KX : K.In h) (ar : ∀ a ∈ A, ArgOb h A a) {a : Addr} {vs : List Value} (ha : a ∈ A) (e : h.get? a = some { cls := .type "list", data := .seq vs.toArray }) : (∀ u ∈ vs, OkU A u) ∧ SqL K (argH K h A) a (vs.map toV) := by
  obtain ⟨us, h1, h2, h3⟩ := ar a ha
  have hu : us = vs := by
    rcases h3 with q | q
    · rw [e] at q
      exact (seq_inj q).2.symm
    · rw [e] at q
      exact absurd (Value.type.inj (seq_inj q).1) (by decide)
  subst hu
  refine ⟨h2, ?_⟩
  cases hk : K.lookup a with
  | none => exact .inl (.inr ⟨_, by rw [argH_at ha hk e, hoOf_lst]⟩)
  | some o =>
    have e2 := KX a o hk
    rw [e] at e2
    obtain rfl := Option.some.inj e2
    exact .inr ⟨_, us.toArray, _, hk, rfl, rfl, rfl, by rw [List.size_toArray]; exact h1, by simpa using vals_toV h2⟩
theorem argT (KX : K.In h) (ar : ∀ a ∈ A, ArgOb h A a) {a : Addr} {vs : List Value} (ha : a ∈ A) (e : h.get? a = some { cls := .type "tuple", data := .seq vs.toArray }) : (∀ u ∈ vs, OkU A u) ∧ SqT K (argH K h A) a (vs.map toV) := by
  obtain ⟨us, h1, h2, h3⟩ := ar a ha
  have hu : us = vs := by
    rcases h3 with q | q
    · rw [e] at q
      exact absurd (Value.type.inj (seq_inj q).1) (by decide)
    · rw [e] at q
      exact (seq_inj q).2.symm
  subst hu
  refine ⟨h2, ?_⟩
  cases hk : K.lookup a with
  | none => exact .inl (.inr ⟨_, by rw [argH_at ha hk e, hoOf_tup]⟩)
  | some o =>
    have e2 := KX a o hk
    rw [e] at e2
    obtain rfl := Option.some.inj e2
    exact .inr ⟨_, us.toArray, _, hk, rfl, rfl, by rw [List.size_toArray]; exact h1, by simpa using vals_toV h2⟩
mutual
theorem dw_one {Pm : Params} (KX : K.In h) (ar : ∀ a ∈ A, ArgOb h A a) : ∀ (d : WData) (v : Value), Well Pm h v d → plW d = true → OkU A v → Dw K (argH K h A) (toV v) d
  | .none, _, x, _, _ => by
    cases x
    exact .non
  | .bool b, _, x, _, _ => by
    cases x
    exact .bl b
  | .int i, _, x, _, _ => by
    cases x
    exact .int i
  | .str s, _, x, _, _ => by
    cases x
    exact .str s
  | .bytes b, _, x, _, _ => by
    cases x
    have z := Dw.byt (K := K) (H := argH K h A) b.toArray
    exact z
  | .list ds, _, x, p, hu => by
    obtain ⟨a, vs, rfl, ho, hall⟩ := well_list x
    obtain ⟨h2, hs⟩ := argL KX ar hu ho
    exact .lst hs (dw_all KX ar ds _ hall p h2)
  | .tuple ds, _, x, p, hu => by
    obtain ⟨a, vs, rfl, ho, hall⟩ := well_tuple x
    obtain ⟨h2, hs⟩ := argT KX ar hu ho
    exact .tup hs (dw_all KX ar ds _ hall p h2)
  | .float _, _, _, p, _ => Bool.noConfusion (show false = true from p)
  | .dict _, _, _, p, _ => Bool.noConfusion (show false = true from p)
  | .bytearray _, _, _, p, _ => Bool.noConfusion (show false = true from p)
  | .set _, _, _, p, _ => Bool.noConfusion (show false = true from p)
  | .frozenset _, _, _, p, _ => Bool.noConfusion (show false = true from p)
  | .obj _ _, _, _, p, _ => Bool.noConfusion (show false = true from p)
theorem dw_all {Pm : Params} (KX : K.In h) (ar : ∀ a ∈ A, ArgOb h A a) : ∀ (ds : List WData) (vs : List Value), WellAll Pm h vs ds → plWs ds = true → (∀ u ∈ vs, OkU A u) → DwAll K (argH K h A) (vs.map toV) ds
  | [], _, x, _, _ => by
    cases x
    exact .nil
  | d :: ds, _, x, p, hu => by
    obtain ⟨v, vs, rfl, x1, x2⟩ := well_cons x
    have q : plW d = true ∧ plWs ds = true := Bool.and_eq_true_iff.mp p
    exact .cons (dw_one KX ar d v x1 q.1 (hu _ (List.mem_cons_self ..))) (dw_all KX ar ds vs x2 q.2 fun u m => hu u (List.mem_cons_of_mem _ m))
end
end
theorem spec_call {P : Program} {w : World} {K : PySem.W.Frag} {mg mb : Str → Option Value} {CX : CXT} {k : Nat} {fa : Addr} {fd : FuncData} {ps : List Str} {sp : Sp} {s₁ : Shared} {vals : List Value} {ds : List WData} {R : PySem.W.WRecords} {cl : Str → Option Addr} {d0 : WData}
    (KX : K.In s₁.heap) (hns : s₁.heap.Ns mainGlobals mg) (hb : s₁.heap.Ns builtinsNs mb) (hbb : ∀ x : Str, x ≠ "__name__" → mb x = bootBuiltins x) (hlim : s₁.heap.NoLimit) (hg : s₁.gens = #[])
    (hwl : WellAll w.params s₁.heap vals ds) (hpl : plWs ds = true) (hwt : ∀ d ∈ ds, d.weight ≤ 1048576) (hr : Room k callerA)
    (F : ∀ base : Heap, K.In base → base.Ns mainGlobals mg → FnOk P w K mg base CX k fa fd ps sp) (hbind : ∀ (s : Shared) (us : List Value), us.length = ps.length → BindsTo s fd ⟨us, []⟩ (ps.zip us)) (hlen : ds.length = ps.length)
    (hsp : ∀ (H : Hp) (xs : List V), OnlyF H → DwAll K H xs ds → sp xs H (fun v H' => Dw K H' v d0) fun _ _ _ => False)
    (hCX : ∀ H e s', CX [] H s₁ (fun _ _ _ => False) e s' → False) :
    codeAny (model P w) callerA (.call (.ref fa) ⟨vals, []⟩) (fun r s' => ∃ u as, r = .ok (.ret u) ∧ ReadsW R cl s'.heap u d0 as ∧ OldK s₁.heap s'.heap ∧ s'.os = s₁.os ∧ AllBare s'.gens) s₁ := by
  obtain ⟨A, ho, ar⟩ := area_all ds vals hwl hpl hwt
  have hO : OnlyF (argH K s₁.heap A) := argH_only ar
  have hok : HOk P w (argH K s₁.heap A) s₁.heap := argH_ok ar
  have hS := dw_all KX ar ds vals hwl hpl ho
  have hV := vals_toV ho
  have hK : ∀ b u, argH K s₁.heap A b = some u → K.lookup b = none := fun b u q => (argH_is ar q).1
  have noA : ∀ {b : Addr} {o : Obj} {es : Array DictEntry} {ep : Nat}, s₁.heap.get? b = some o → o.data = .dict es ep → argH K s₁.heap A b = none := fun {b o es ep} e d => by
    cases q : argH K s₁.heap A b with
    | none => rfl
    | some u =>
      obtain ⟨_, vs, _, _, ⟨e2, _⟩ | ⟨e2, _⟩⟩ := argH_is ar q
      · rw [e2] at e
        cases e
        have d' : Data.seq vs.toArray _ = Data.dict es ep := d
        cases d'
      · rw [e2] at e
        cases e
        have d' : Data.seq vs.toArray _ = Data.dict es ep := d
        cases d'
  generalize argH K s₁.heap A = H at hO hok hS hK noA
  have base_of : ∀ {b : Addr} {o : Obj}, s₁.heap.get? b = some o → H b = none → (hidT s₁.heap H).get? b = some o := fun e n => hidT_get e n
  have nsK : ∀ {b : Addr} {m : Str → Option Value}, s₁.heap.Ns b m → (hidT s₁.heap H).Ns b m := fun {b m} ⟨o, es, ep, e, d, r⟩ => ⟨o, es, ep, base_of e (noA e d), d, r⟩
  have nK : ∀ b o, K.lookup b = some o → H b = none := fun b o e => by
    cases q : H b with
    | none => rfl
    | some u =>
      rw [hK b u q] at e
      cases e
  have hKb : K.In (hidT s₁.heap H) := fun b o e => base_of (KX b o e) (nK b o e)
  have hM : Mod K mg (hidT s₁.heap H) := ⟨hKb, nsK hns, ⟨mb, nsK hb, hbb⟩, let ⟨mc, h1, h2⟩ := hlim; ⟨mc, nsK h1, h2⟩⟩
  have e0 : Env0 P w K mg (hidT s₁.heap H) callerA [] s₁ H := ⟨rfl, hM, fun b o e => of_hidT e, Nat.le_of_eq (hidT_size _ _), trivial, fun b hb => absurd (show b ∈ ([] : List Addr) from hb) (by simp), hok, .of_eq hg⟩
  have hl : vals.length = ps.length := by rw [wellAll_len hwl]; exact hlen
  refine codeAny_mono ((F _ hKb (nsK hns)).run callerA [] s₁ H ⟨vals, []⟩ vals (vals.map toV) _ _ hr e0 (hbind s₁ vals hl) hV (hsp H _ hO hS)) fun r s' x => ?_
  cases r with
  | error e => exact (hCX H e s' x).elim
  | ok fl =>
    cases fl with
    | next => exact False.elim x
    | brk => exact False.elim x
    | cont => exact False.elim x
    | ret u =>
      obtain ⟨v, H', os, bare, un, hok', r', q⟩ := x
      have kept : ∀ b o, s₁.heap.get? b = some o → s'.heap.get? b = some o := fun b o e => by
        cases q2 : H b with
        | none => exact un.keep b o e q2 (by intro z; exact absurd (show b ∈ ([] : List Addr) from z) (by simp)) (by simp)
        | some u2 =>
          rcases hO b with z | ⟨ob, u3, z⟩
          · rw [q2] at z
            cases z
          · have z2 := un.frzs b ob _ z
            obtain ⟨e1, _⟩ := hok b _ z
            obtain ⟨e2, _⟩ := hok' b _ z2
            rw [e] at e1
            cases e1
            exact e2
      have KX' : K.In s'.heap := fun b o e => kept b o (KX b o e)
      obtain ⟨as, hrd⟩ := Dw.reads (R := R) (cl := cl) hok' KX' d0 v u q r'
      exact ⟨u, as, rfl, hrd, OldK.of_keep kept, os, bare⟩
theorem layable_weight {ds : List WData} (h : WData.layableAll ds = true) : ∀ d ∈ ds, d.weight ≤ 1048576 := fun d hd =>
  (PySem.W.layableW_iff.mp (List.all_eq_true.mp h d hd)).2.2
theorem encAll_len : ∀ (cs : List Codec) (a : Codec.denoteAll cs), (Codec.encAll cs a).length = cs.length
  | [], _ => rfl
  | c :: cs, a => by
    show (Codec.encAll cs a.2).length + 1 = cs.length + 1
    rw [encAll_len cs a.2]
theorem walk_spec {r : OpenSpec} {k : Nat} {q : Program} {loose : List Str} {XP : (Str → Option Value) → Heap → Prop} {YP : World → Heap → Prop} {d : DefRec} {K : Params → PySem.W.Frag} {CX : World → CXT} {ps : List Str} {sp : World → Sp}
    (hwell : r.wellSaid = true) (hdf : d.params.defaults = []) (hlen : r.args.length = ps.length) (hr : Room k callerA)
    (hY : ∀ (w : World) (h : Heap), YP w h → (K w.params).In h)
    (F : ∀ (w : World) (mg : Str → Option Value) (fa : Addr) (h : Heap), YP w h → (K w.params).In h → h.Ns mainGlobals mg → mg d.name = some (.ref fa) →
      ∃ fd : FuncData, (∀ (s : Shared) (us : List Value), us.length = ps.length → BindsTo s fd ⟨us, []⟩ (ps.zip us)) ∧
        ∀ base : Heap, (K w.params).In base → base.Ns mainGlobals mg → FnOk r.prog w (K w.params) mg base (CX w) k fa fd ps (sp w))
    (hsp : ∀ (w : World) (H : Hp) (xs : List V) (a : Codec.denoteAll r.args), OnlyF H → Codec.withinAll r.args a = true → Codec.app r.args r.asked a = true → DwAll (K w.params) H xs (Codec.encAll r.args a) →
      sp w xs H (fun v H' => Dw (K w.params) H' v (r.ret.enc (Codec.app r.args r.f a))) fun _ _ _ => False)
    (hCX : ∀ (w : World) (H : Hp) (s : Shared) (e : Value) (s' : Shared), CX w [] H s (fun _ _ _ => False) e s' → False) :
    PySem.W.WalkOS q loose XP YP r d [] (fun f vs => PySem.call f vs) := by
  intro w s_0 s₁ mg mb G Y fa o pm cd doc dV kV ho hd hcd hD hmg hg args vals as hpre hlay hrd hwl hlo
  obtain ⟨a, e1, e2⟩ := PySem.W.os_pre_some hpre
  obtain ⟨e3, hwi⟩ := Codec.encAll_of_decAll r.args args a e1
  subst e3
  have KX := hY w _ Y
  obtain ⟨fd, hb, hF⟩ := F w mg fa _ Y KX G.T.g hmg
  refine PySem.W.enter_call (codeAny_mono (spec_call (R := []) (cl := classAt s_0.heap) (d0 := r.ret.enc (Codec.app r.args r.f a)) KX G.T.g G.T.b G.T.builtins G.T.nolimit hg hwl (pl_encAll _ _) (layable_weight hlay) hr hF hb (by rw [encAll_len]; exact hlen)
    (fun H xs hO hS => hsp w H xs a hO hwi e2 hS) fun H e s' => hCX w H s₁ e s') fun r' s' hq => ?_)
  obtain ⟨u, as', rfl, h1, h2, h3, h4⟩ := hq
  exact ⟨.inl ⟨u, _, as', rfl, fun _ => rfl, h1, (OpenSpec.post_iff hwell hwi _ _).mpr rfl, fun z => Bool.noConfusion (show false = true from z)⟩, h2, h3, h4⟩
theorem walk_specK {r : OpenSpec} {k : Nat} {q : Program} {loose : List Str} {XP : (Str → Option Value) → Heap → Prop} {YP : World → Heap → Prop} {d : DefRec} {K : Params → PySem.W.Frag} {CX : CXT} {ps : List Str} {sp : PySem.W.Frag → Sp}
    (hwell : r.wellSaid = true) (hdf : d.params.defaults = []) (hlen : r.args.length = ps.length) (hr : Room k callerA)
    (hY : ∀ (w : World) (h : Heap), YP w h → (K w.params).In h)
    (F : ∀ (w : World) (mg : Str → Option Value) (fa : Addr) (h : Heap), YP w h → (K w.params).In h → h.Ns mainGlobals mg → mg d.name = some (.ref fa) →
      ∃ fd : FuncData, (∀ (s : Shared) (us : List Value), us.length = ps.length → BindsTo s fd ⟨us, []⟩ (ps.zip us)) ∧
        ∀ base : Heap, (K w.params).In base → base.Ns mainGlobals mg → FnOk r.prog w (K w.params) mg base CX k fa fd ps (sp (K w.params)))
    (hsp : ∀ (K : PySem.W.Frag) (H : Hp) (xs : List V) (a : Codec.denoteAll r.args), OnlyF H → Codec.withinAll r.args a = true → Codec.app r.args r.asked a = true → DwAll K H xs (Codec.encAll r.args a) →
      sp K xs H (fun v H' => Dw K H' v (r.ret.enc (Codec.app r.args r.f a))) fun _ _ _ => False)
    (hCX : ∀ (H : Hp) (s : Shared) (e : Value) (s' : Shared), CX [] H s (fun _ _ _ => False) e s' → False) :
    PySem.W.WalkOS q loose XP YP r d [] (fun f vs => PySem.call f vs) :=
  walk_spec (K := K) (CX := fun _ => CX) (sp := fun w => sp (K w.params)) hwell hdf hlen hr hY F (fun w H xs a h1 h2 h3 h4 => hsp (K w.params) H xs a h1 h2 h3 h4) fun _ H s e s' => hCX H s e s'
end L2
end
end
section
namespace Bl
open Rg
def digitB (c : UInt8) : Bool := decide (48 ≤ c) && decide (c ≤ 57)
theorem digitB_nat {c : UInt8} : digitB c = true ↔ 48 ≤ c.toNat ∧ c.toNat ≤ 57 := by
  unfold digitB
  rw [Bool.and_eq_true, decide_eq_true_iff, decide_eq_true_iff]
  exact Iff.rfl
def sizeGo : Nat → Bytes → Option Nat
  | n, [] => some n
  | n, c :: r => if digitB c = true then (if FAR < 10 * n + (c.toNat - 48) then none else sizeGo (10 * n + (c.toNat - 48)) r) else none
def readSize (b : Bytes) : Option Nat := if b = [] ∨ (b.head? = some 48 ∧ 1 < b.length) then none else sizeGo 0 b
def readNumber (b : Bytes) : Option Int := if b.take 1 = [45] then (match readSize (b.drop 1) with | none => none | some 0 => none | some (n + 1) => some (-((n + 1 : Nat) : Int))) else (readSize b).map fun n => (n : Int)
def dig (n : Nat) : UInt8 := UInt8.ofNat (48 + n)
theorem dig_toNat {n : Nat} (h : n < 10) : (dig n).toNat = 48 + n := by
  unfold dig
  rw [UInt8.toNat_ofNat']
  omega
theorem dig_char : ∀ {n : Nat}, n < 10 → UInt8.ofNat (Nat.digitChar n).toNat = dig n := by
  intro n h
  match n, h with
  | 0, _ => rfl
  | 1, _ => rfl
  | 2, _ => rfl
  | 3, _ => rfl
  | 4, _ => rfl
  | 5, _ => rfl
  | 6, _ => rfl
  | 7, _ => rfl
  | 8, _ => rfl
  | 9, _ => rfl
  | n + 10, h => exact absurd h (by omega)
theorem dig_inv {c : UInt8} (h : digitB c = true) : dig (c.toNat - 48) = c := by
  have h' := digitB_nat.mp h
  apply UInt8.toNat_inj.mp
  rw [dig_toNat (by omega)]
  omega
theorem decimal_lt {n : Nat} (h : n < 10) : decimal n = [dig n] := by
  unfold decimal
  rw [Nat.toDigits_of_lt_base h, List.map_singleton, dig_char h]
theorem decimal_ge {n : Nat} (h : 10 ≤ n) : decimal n = decimal (n / 10) ++ [dig (n % 10)] := by
  unfold decimal
  rw [Nat.toDigits_of_base_le (by decide) h, List.map_append, List.map_singleton, dig_char (Nat.mod_lt _ (by decide))]
theorem decimal_snoc {n d : Nat} (h : 0 < n) (hd : d < 10) : decimal (10 * n + d) = decimal n ++ [dig d] := by
  rw [decimal_ge (by omega)]
  congr 2
  · congr 1; omega
  · congr 1; omega
theorem decimal_ne (n : Nat) : decimal n ≠ [] := by
  unfold decimal
  intro h
  exact Nat.toDigits_ne_nil (List.map_eq_nil_iff.mp h)
theorem natIn_snoc (b : Bytes) (c : UInt8) : natIn (b ++ [c]) = 10 * natIn b + (c.toNat - 48) := by
  unfold natIn
  rw [List.foldl_append]
  rfl
theorem decimal_props (n : Nat) : natIn (decimal n) = n ∧ (decimal n).all digitB = true ∧ ((decimal n).head? = some 48 → n = 0) := by
  induction n using Nat.strongRecOn with
  | ind n ih =>
    by_cases h : n < 10
    · rw [decimal_lt h]
      have e := dig_toNat h
      refine ⟨?_, ?_, ?_⟩
      · show 10 * 0 + ((dig n).toNat - 48) = n
        omega
      · rw [List.all_cons, List.all_nil, Bool.and_true]
        exact digitB_nat.mpr (by omega)
      · intro q
        have q' : dig n = 48 := Option.some.inj q
        rw [q'] at e
        have : (48 : UInt8).toNat = 48 := rfl
        omega
    · have h10 : 10 ≤ n := by omega
      obtain ⟨i1, i2, i3⟩ := ih (n / 10) (by omega)
      rw [decimal_ge h10]
      have e := dig_toNat (n := n % 10) (by omega)
      refine ⟨?_, ?_, ?_⟩
      · rw [natIn_snoc, i1, e]
        omega
      · rw [List.all_append, i2, List.all_cons, List.all_nil, Bool.and_true, Bool.true_and]
        exact digitB_nat.mpr (by omega)
      · intro q
        have : (decimal (n / 10)).head? = some 48 := by
          cases hd : decimal (n / 10) with
          | nil => exact absurd hd (decimal_ne _)
          | cons a l => rw [hd] at q; exact q
        have := i3 this
        omega
theorem decimal_natIn : ∀ (k : Nat) (b : Bytes), b.length = k → b ≠ [] → b.all digitB = true → ¬ (b.head? = some 48 ∧ 1 < b.length) → decimal (natIn b) = b := by
  intro k
  induction k with
  | zero => intro b hl hb _ _; exact absurd (List.length_eq_zero_iff.mp hl) hb
  | succ k ih =>
    intro b hl hb ha h0
    obtain ⟨b', c, rfl⟩ : ∃ b' c, b = b' ++ [c] := ⟨b.dropLast, b.getLast hb, (List.dropLast_concat_getLast hb).symm⟩
    rw [List.all_append, Bool.and_eq_true, List.all_cons, List.all_nil, Bool.and_true] at ha
    rw [natIn_snoc]
    have hc := digitB_nat.mp ha.2
    by_cases hb' : b' = []
    · subst hb'
      show decimal (10 * 0 + (c.toNat - 48)) = [c]
      rw [show 10 * 0 + (c.toNat - 48) = c.toNat - 48 by omega, decimal_lt (by omega), dig_inv ha.2]
    · have hl' : b'.length = k := by rw [List.length_append] at hl; simpa using hl
      have hh : ¬ (b'.head? = some 48 ∧ 1 < b'.length) := by
        intro q
        apply h0
        refine ⟨?_, by rw [List.length_append]; omega⟩
        cases b' with
        | nil => exact absurd rfl hb'
        | cons a l => exact q.1
      have ih' := ih b' hl' hb' ha.1 hh
      have hpos : 0 < natIn b' := by
        rcases Nat.eq_zero_or_pos (natIn b') with e | e
        · exfalso
          rw [e, decimal_lt (by decide)] at ih'
          apply h0
          rw [← ih']
          exact ⟨rfl, by show 1 < 2; decide⟩
        · exact e
      rw [decimal_snoc hpos (by omega), ih', dig_inv ha.2]
theorem natIn_ge : ∀ (b : Bytes) (n : Nat), n ≤ b.foldl (fun (n : Nat) (c : UInt8) => 10 * n + (c.toNat - 48)) n
  | [], n => Nat.le_refl n
  | c :: r, n => Nat.le_trans (by omega) (natIn_ge r (10 * n + (c.toNat - 48)))
theorem sizeGo_some : ∀ (b : Bytes) (n m : Nat), sizeGo n b = some m ↔ b.all digitB = true ∧ (b = [] ∨ m ≤ FAR) ∧ m = b.foldl (fun (n : Nat) (c : UInt8) => 10 * n + (c.toNat - 48)) n
  | [], n, m => ⟨fun h => ⟨rfl, .inl rfl, (Option.some.inj h).symm⟩, fun h => congrArg some h.2.2.symm⟩
  | c :: r, n, m => by
    have hge := natIn_ge r (10 * n + (c.toNat - 48))
    unfold sizeGo
    rw [List.all_cons, Bool.and_eq_true, List.foldl_cons]
    by_cases hc : digitB c = true
    · rw [if_pos hc]
      by_cases hf : FAR < 10 * n + (c.toNat - 48)
      · rw [if_pos hf]
        constructor
        · intro q; cases q
        · rintro ⟨_, q | q, e⟩
          · cases q
          · omega
      · rw [if_neg hf, sizeGo_some r]
        constructor
        · rintro ⟨a1, a2, a3⟩
          refine ⟨⟨hc, a1⟩, .inr ?_, a3⟩
          rcases a2 with rfl | a2
          · rw [a3]; show 10 * n + (c.toNat - 48) ≤ FAR; omega
          · exact a2
        · rintro ⟨⟨_, a1⟩, a2, a3⟩
          refine ⟨a1, ?_, a3⟩
          rcases a2 with q | a2
          · cases q
          · exact .inr a2
    · rw [if_neg hc]
      constructor
      · intro q; cases q
      · rintro ⟨⟨q, _⟩, _⟩; exact absurd q hc
theorem readSize_some {b : Bytes} {n : Nat} : readSize b = some n ↔ decimal n = b ∧ n ≤ FAR := by
  unfold readSize
  constructor
  · intro h
    by_cases h0 : b = [] ∨ (b.head? = some 48 ∧ 1 < b.length)
    · rw [if_pos h0] at h; cases h
    · rw [if_neg h0, sizeGo_some] at h
      have hb : b ≠ [] := fun q => h0 (.inl q)
      obtain ⟨a1, a2, a3⟩ := h
      refine ⟨?_, ?_⟩
      · rw [a3]
        exact decimal_natIn _ b rfl hb a1 (fun q => h0 (.inr q))
      · rcases a2 with q | q
        · exact absurd q hb
        · exact q
  · rintro ⟨rfl, hn⟩
    obtain ⟨p1, p2, p3⟩ := decimal_props n
    have h0 : ¬ (decimal n = [] ∨ ((decimal n).head? = some 48 ∧ 1 < (decimal n).length)) := by
      rintro (q | ⟨q1, q2⟩)
      · exact decimal_ne n q
      · have := p3 q1
        subst this
        exact absurd q2 (by decide)
    rw [if_neg h0, sizeGo_some]
    exact ⟨p2, .inr hn, p1.symm⟩
theorem decimal_head {n : Nat} : (decimal n).take 1 ≠ [45] := by
  have h := (decimal_props n).2.1
  intro q
  cases hd : decimal n with
  | nil => exact decimal_ne n hd
  | cons a l =>
    rw [hd] at q h
    have : a = 45 := by simpa using q
    subst this
    rw [List.all_cons, Bool.and_eq_true] at h
    exact absurd h.1 (by decide)
theorem readNumber_some {b : Bytes} {z : Int} : readNumber b = some z ↔ signedText z = b ∧ z.natAbs ≤ FAR := by
  unfold readNumber signedText
  by_cases h : b.take 1 = [45]
  · rw [if_pos h]
    obtain ⟨r, rfl⟩ : ∃ r, b = 45 :: r := by
      cases b with
      | nil => cases h
      | cons a l => exact ⟨l, by simpa using h⟩
    show (match readSize r with | none => none | some 0 => none | some (n + 1) => some (-((n + 1 : Nat) : Int))) = some z ↔ _
    constructor
    · intro q
      split at q
      · cases q
      · cases q
      · rename_i n hn
        have e := Option.some.inj q
        obtain ⟨e1, e2⟩ := readSize_some.mp hn
        subst e
        rw [if_pos (by omega), show (-((n + 1 : Nat) : Int)).natAbs = n + 1 by omega, e1]
        exact ⟨rfl, e2⟩
    · rintro ⟨q, hz⟩
      by_cases hneg : z < 0
      · rw [if_pos hneg] at q
        have q' : decimal z.natAbs = r := (List.cons.inj q).2
        rw [readSize_some.mpr ⟨q', hz⟩]
        obtain ⟨n, hn⟩ : ∃ n, z.natAbs = n + 1 := ⟨z.natAbs - 1, by omega⟩
        rw [hn]
        show some (-((n + 1 : Nat) : Int)) = some z
        congr 1
        omega
      · rw [if_neg hneg] at q
        exact absurd (by rw [q]; rfl) (decimal_head (n := z.natAbs))
  · rw [if_neg h]
    constructor
    · intro q
      cases hs : readSize b with
      | none => rw [hs] at q; cases q
      | some n =>
        rw [hs] at q
        have e : (n : Int) = z := Option.some.inj q
        subst e
        rw [if_neg (by omega)]
        exact readSize_some.mp hs
    · rintro ⟨q, hz⟩
      by_cases hneg : z < 0
      · rw [if_pos hneg] at q
        exact absurd (by rw [← q]; rfl) h
      · rw [if_neg hneg] at q
        rw [readSize_some.mpr ⟨q, hz⟩]
        show some ((z.natAbs : Nat) : Int) = some z
        congr 1
        omega
theorem intIn_signed (z : Int) : intIn (signedText z) = z := by
  unfold signedText
  by_cases h : z < 0
  · rw [if_pos h]
    show -((natIn (decimal z.natAbs) : Nat) : Int) = z
    rw [(decimal_props _).1]
    omega
  · rw [if_neg h]
    have e : intIn (decimal z.natAbs) = ((natIn (decimal z.natAbs) : Nat) : Int) := by
      have hh := decimal_head (n := z.natAbs)
      cases hd : decimal z.natAbs with
      | nil => rfl
      | cons a l =>
        rw [hd] at hh
        unfold intIn
        split
        · rename_i heq
          exact absurd (by rw [heq]; rfl) hh
        · rfl
    rw [e, (decimal_props _).1]
    omega
end Bl
end
section
namespace Bl
open Rg
theorem cutAt_ne (x : UInt8) : ∀ b : Bytes, cutAt x b ≠ []
  | [] => by intro h; cases h
  | c :: r => by
    unfold cutAt
    split
    · intro h; cases h
    · split
      · intro h; cases h
      · intro h; cases h
theorem cutAt_mark (x : UInt8) (r : Bytes) : cutAt x (x :: r) = [] :: cutAt x r := by
  show (if x = x then _ else _) = _
  rw [if_pos rfl]
theorem cutAt_other {x c : UInt8} (r : Bytes) {l : Bytes} {m : List Bytes} (hc : c ≠ x) (h : cutAt x r = l :: m) : cutAt x (c :: r) = (c :: l) :: m := by
  show (if c = x then _ else match cutAt x r with | [] => [[c]] | l :: m => (c :: l) :: m) = _
  rw [if_neg hc, h]
theorem cutAt_head (x : UInt8) (b : Bytes) : ∃ l m, cutAt x b = l :: m := by
  cases h : cutAt x b with
  | nil => exact absurd h (cutAt_ne x b)
  | cons l m => exact ⟨l, m, rfl⟩
def glue (x : UInt8) : List Bytes → Bytes
  | [] => []
  | [w] => w
  | w :: r => w ++ (x :: glue x r)
theorem spaced_glue : ∀ ws : List Bytes, spaced ws = glue 32 ws
  | [] => rfl
  | [w] => rfl
  | w :: v :: r => by
    show w ++ (32 :: spaced (v :: r)) = w ++ (32 :: glue 32 (v :: r))
    rw [spaced_glue (v :: r)]
theorem glue_cons (x : UInt8) (w : Bytes) {r : List Bytes} (h : r ≠ []) : glue x (w :: r) = w ++ (x :: glue x r) := by
  cases r with
  | nil => exact absurd rfl h
  | cons v r => rfl
theorem glue_cut (x : UInt8) : ∀ b : Bytes, glue x (cutAt x b) = b
  | [] => rfl
  | c :: r => by
    have ih := glue_cut x r
    by_cases hc : c = x
    · subst hc
      rw [cutAt_mark, glue_cons _ _ (cutAt_ne _ _), ih]
      rfl
    · obtain ⟨l, m, e⟩ := cutAt_head x r
      rw [cutAt_other r hc e]
      rw [e] at ih
      cases m with
      | nil =>
        show c :: l = c :: r
        rw [show l = r from ih]
      | cons v m =>
        rw [glue_cons _ _ (by intro q; cases q)] at ih ⊢
        show c :: (l ++ _) = c :: r
        rw [ih]
theorem cut_plain (x : UInt8) : ∀ w : Bytes, x ∉ w → cutAt x w = [w]
  | [], _ => rfl
  | c :: r, h => by
    have h1 : c ≠ x := fun q => h (by rw [q]; exact List.mem_cons_self)
    exact cutAt_other r h1 (cut_plain x r (fun q => h (List.mem_cons_of_mem _ q)))
theorem cut_append (x : UInt8) (t : Bytes) : ∀ w : Bytes, x ∉ w → cutAt x (w ++ x :: t) = w :: cutAt x t
  | [], _ => cutAt_mark x t
  | c :: r, h => by
    have h1 : c ≠ x := fun q => h (by rw [q]; exact List.mem_cons_self)
    exact cutAt_other _ h1 (cut_append x t r (fun q => h (List.mem_cons_of_mem _ q)))
theorem cut_glue (x : UInt8) : ∀ ws : List Bytes, ws ≠ [] → (∀ w ∈ ws, x ∉ w) → cutAt x (glue x ws) = ws
  | [], h, _ => absurd rfl h
  | [w], _, h => cut_plain x w (h w List.mem_cons_self)
  | w :: v :: r, _, h => by
    show cutAt x (w ++ (x :: glue x (v :: r))) = _
    rw [cut_append x _ w (h w List.mem_cons_self), cut_glue x (v :: r) (by intro q; cases q) (fun u hu => h u (List.mem_cons_of_mem _ hu))]
theorem digit_no32 {b : Bytes} (h : b.all digitB = true) : (32 : UInt8) ∉ b := by
  intro q
  have := List.all_eq_true.mp h _ q
  exact absurd this (by decide)
theorem signed_no32 (z : Int) : (32 : UInt8) ∉ signedText z := by
  unfold signedText
  split
  · intro q
    rcases List.mem_cons.mp q with q | q
    · exact absurd q (by decide)
    · exact digit_no32 (decimal_props _).2.1 q
  · exact digit_no32 (decimal_props _).2.1
theorem name_no32 {n : Bytes} (h : nameOk n = true) : (32 : UInt8) ∉ n := by
  unfold nameOk at h
  rw [Bool.and_eq_true, Bool.and_eq_true] at h
  intro q
  have := List.all_eq_true.mp h.2.2 _ q
  exact absurd this (by decide)
def readNumbers : List Bytes → Option (List Int)
  | [] => some []
  | w :: r => match readNumber w, readNumbers r with
    | some z, some l => some (z :: l)
    | _, _ => none
theorem readNumbers_some : ∀ {ws : List Bytes} {l : List Int}, readNumbers ws = some l ↔ l.map signedText = ws ∧ ∀ z ∈ l, z.natAbs ≤ FAR
  | [], l => by
    constructor
    · intro h
      have e : [] = l := Option.some.inj h
      subst e
      exact ⟨rfl, fun z hz => by cases hz⟩
    · rintro ⟨h, _⟩
      have e := List.map_eq_nil_iff.mp h
      subst e
      rfl
  | w :: r, l => by
    have ih := @readNumbers_some r
    unfold readNumbers
    constructor
    · intro h
      split at h
      · rename_i z l' h1 h2
        have e := Option.some.inj h
        subst e
        obtain ⟨a1, a2⟩ := readNumber_some.mp h1
        obtain ⟨b1, b2⟩ := ih.mp h2
        refine ⟨by rw [List.map_cons, a1, b1], fun y hy => ?_⟩
        rcases List.mem_cons.mp hy with rfl | hy
        · exact a2
        · exact b2 y hy
      · cases h
    · rintro ⟨h, hz⟩
      cases l with
      | nil => cases h
      | cons z l =>
        rw [List.map_cons] at h
        obtain ⟨h1, h2⟩ := List.cons.inj h
        rw [readNumber_some.mpr ⟨h1, hz z List.mem_cons_self⟩, ih.mpr ⟨h2, fun y hy => hz y (List.mem_cons_of_mem _ hy)⟩]
def readBoat (ws : List Bytes) : Option LogLine := match ws with
  | [n] => if nameOk n = true then some (.boat n) else none
  | _ => none
def readWind (ws : List Bytes) : Option LogLine := match readNumbers ws with
  | some [u, v] => some (.wind ⟨u, v⟩)
  | _ => none
def readAt (ws : List Bytes) : Option LogLine := match readNumbers ws with
  | some l => if 4 ≤ l.length ∧ l.length ≤ 256 ∧ l.length % 4 = 0 then some (.at_ (hullsIn l)) else none
  | none => none
def readLine (b : Bytes) : Option LogLine := match cutAt 32 b with
  | w :: r => if w = ascii "boat" then readBoat r else if w = ascii "wind" then readWind r else if w = ascii "at" then readAt r else none
  | [] => none
theorem hulls_nums : ∀ (k : Nat) (l : List Int), l.length = 4 * k → (hullsIn l).flatMap hullNums = l ∧ (hullsIn l).length = k
  | 0, l, h => by
    have e := List.length_eq_zero_iff.mp (show l.length = 0 by omega)
    subst e
    exact ⟨rfl, rfl⟩
  | k + 1, l, h => by
    match l, h with
    | a :: b :: c :: d :: r, h =>
      have ih := hulls_nums k r (by simp at h; omega)
      refine ⟨?_, ?_⟩
      · show (hullsIn (a :: b :: c :: d :: r)).flatMap hullNums = _
        show ((⟨⟨a, b⟩, ⟨c, d⟩⟩ : Hull) :: hullsIn r).flatMap hullNums = _
        rw [List.flatMap_cons, ih.1]
        rfl
      · show (hullsIn r).length + 1 = k + 1
        rw [ih.2]
    | [], h => simp at h
    | [_], h => simp at h; omega
    | [_, _], h => simp at h; omega
    | [_, _, _], h => simp at h; omega
theorem nums_hulls : ∀ l : List Hull, hullsIn (l.flatMap hullNums) = l
  | [] => rfl
  | h :: r => by
    rw [List.flatMap_cons]
    show (⟨⟨h.bow.x, h.bow.y⟩, ⟨h.stern.x, h.stern.y⟩⟩ : Hull) :: hullsIn (r.flatMap hullNums) = h :: r
    rw [nums_hulls r]
theorem nums_len : ∀ l : List Hull, (l.flatMap hullNums).length = 4 * l.length
  | [] => rfl
  | h :: r => by
    rw [List.flatMap_cons, List.length_append, nums_len r, List.length_cons]
    show 4 + _ = _
    omega
theorem hulls_ok : ∀ l : List Hull, (l.all fun (h : Hull) => h.bow.ok && h.stern.ok) = true ↔ ∀ z ∈ l.flatMap hullNums, z.natAbs ≤ FAR
  | [] => by simp
  | h :: r => by
    rw [List.all_cons, Bool.and_eq_true, hulls_ok r, List.flatMap_cons]
    unfold Pt.ok
    simp only [Bool.and_eq_true, decide_eq_true_iff, List.mem_append, hullNums, List.mem_cons, List.not_mem_nil, or_false]
    constructor
    · rintro ⟨⟨⟨a, b⟩, c, d⟩, e⟩ z ((rfl | rfl | rfl | rfl) | hz)
      · exact a
      · exact b
      · exact c
      · exact d
      · exact e z hz
    · intro q
      exact ⟨⟨⟨q _ (.inl (.inl rfl)), q _ (.inl (.inr (.inl rfl)))⟩, q _ (.inl (.inr (.inr (.inl rfl)))), q _ (.inl (.inr (.inr (.inr rfl))))⟩, fun z hz => q z (.inr hz)⟩
theorem text_glue : ∀ x : LogLine, x.ok = true → ∃ w r, cutAt 32 x.text = w :: r ∧ match x with
    | .boat n => w = ascii "boat" ∧ r = [n]
    | .wind p => w = ascii "wind" ∧ r = [signedText p.x, signedText p.y]
    | .at_ l => w = ascii "at" ∧ r = (l.flatMap hullNums).map signedText := by
  intro x hx
  cases x with
  | boat n =>
    have e : (LogLine.boat n).text = glue 32 [ascii "boat", n] := rfl
    refine ⟨ascii "boat", [n], ?_, rfl, rfl⟩
    rw [e, cut_glue]
    · intro q; cases q
    · intro w hw
      rcases List.mem_cons.mp hw with rfl | hw
      · decide
      · rcases List.mem_cons.mp hw with rfl | hw
        · exact name_no32 hx
        · cases hw
  | wind p =>
    have e : (LogLine.wind p).text = glue 32 [ascii "wind", signedText p.x, signedText p.y] := rfl
    refine ⟨ascii "wind", _, ?_, rfl, rfl⟩
    rw [e, cut_glue]
    · intro q; cases q
    · intro w hw
      rcases List.mem_cons.mp hw with rfl | hw
      · decide
      · rcases List.mem_cons.mp hw with rfl | hw
        · exact signed_no32 _
        · rcases List.mem_cons.mp hw with rfl | hw
          · exact signed_no32 _
          · cases hw
  | at_ l =>
    have hl : l ≠ [] := by
      intro q
      subst q
      exact absurd hx (by decide)
    have hne : (l.flatMap hullNums).map signedText ≠ [] := by
      intro q
      have q' := congrArg List.length q
      rw [List.length_map, nums_len] at q'
      cases l with
      | nil => exact hl rfl
      | cons a b => simp at q'
    have e : (LogLine.at_ l).text = glue 32 (ascii "at" :: (l.flatMap hullNums).map signedText) := by
      rw [glue_cons _ _ hne, ← spaced_glue]
      rfl
    refine ⟨ascii "at", _, ?_, rfl, rfl⟩
    rw [e, cut_glue]
    · intro q; cases q
    · intro w hw
      rcases List.mem_cons.mp hw with rfl | hw
      · decide
      · obtain ⟨z, _, rfl⟩ := List.mem_map.mp hw
        exact signed_no32 z
theorem lineIn_some {b : Bytes} {x : LogLine} : lineIn b = some x ↔ x.ok = true ∧ x.text = b := by
  unfold lineIn
  rw [Option.filter_eq_some_iff, Bool.and_eq_true, beq_iff_eq]
  constructor
  · exact fun h => h.2
  · rintro ⟨h1, h2⟩
    refine ⟨?_, h1, h2⟩
    subst h2
    obtain ⟨w, r, e, q⟩ := text_glue x h1
    unfold lineMaybe
    rw [e]
    cases x with
    | boat n =>
      obtain ⟨rfl, rfl⟩ := q
      rfl
    | wind p =>
      obtain ⟨rfl, rfl⟩ := q
      show some (LogLine.wind ⟨intIn (signedText p.x), intIn (signedText p.y)⟩) = _
      rw [intIn_signed, intIn_signed]
    | at_ l =>
      obtain ⟨rfl, rfl⟩ := q
      show some (LogLine.at_ (hullsIn (((l.flatMap hullNums).map signedText).map intIn))) = _
      rw [List.map_map, show intIn ∘ signedText = id from funext intIn_signed, List.map_id, nums_hulls]
theorem readLine_some {b : Bytes} {x : LogLine} : readLine b = some x ↔ x.ok = true ∧ x.text = b := by
  unfold readLine
  constructor
  · intro h
    have hb := glue_cut 32 b
    obtain ⟨w, r, e⟩ := cutAt_head 32 b
    rw [e] at h hb
    replace h : (if w = ascii "boat" then readBoat r else if w = ascii "wind" then readWind r else if w = ascii "at" then readAt r else none) = some x := h
    by_cases h1 : w = ascii "boat"
    · rw [if_pos h1] at h
      subst h1
      match r, h with
      | [n], h =>
        replace h : (if nameOk n = true then some (LogLine.boat n) else none) = some x := h
        split at h
        · rename_i hn
          cases h
          exact ⟨hn, hb⟩
        · cases h
      | [], h => cases h
      | _ :: _ :: _, h => cases h
    · rw [if_neg h1] at h
      by_cases h2 : w = ascii "wind"
      · rw [if_pos h2] at h
        subst h2
        unfold readWind at h
        split at h
        · rename_i u v hn
          obtain ⟨a1, a2⟩ := readNumbers_some.mp hn
          cases h
          subst a1
          refine ⟨?_, hb⟩
          show (decide (u.natAbs ≤ FAR) && decide (v.natAbs ≤ FAR)) = true
          rw [decide_eq_true (a2 u List.mem_cons_self), decide_eq_true (a2 v (List.mem_cons_of_mem _ List.mem_cons_self))]
          rfl
        · cases h
      · rw [if_neg h2] at h
        by_cases h3 : w = ascii "at"
        · rw [if_pos h3] at h
          subst h3
          unfold readAt at h
          split at h
          · rename_i l hn
            obtain ⟨a1, a2⟩ := readNumbers_some.mp hn
            split at h
            · rename_i hc
              cases h
              obtain ⟨b1, b2⟩ := hulls_nums (l.length / 4) l (by omega)
              have hok : (hullsIn l).all (fun (h : Hull) => h.bow.ok && h.stern.ok) = true := (hulls_ok _).mpr (by rw [b1]; exact a2)
              refine ⟨?_, ?_⟩
              · show (decide (1 ≤ (hullsIn l).length) && (decide ((hullsIn l).length ≤ 64) && _)) = true
                rw [hok, decide_eq_true (by omega), decide_eq_true (by omega)]
                rfl
              · show ascii "at " ++ spaced (((hullsIn l).flatMap hullNums).map signedText) = b
                rw [b1, a1, spaced_glue, ← hb, glue_cons]
                · rfl
                · intro q
                  subst q
                  have := congrArg List.length a1
                  rw [List.length_map] at this
                  have h0 : l.length = 0 := this
                  omega
            · cases h
          · cases h
        · rw [if_neg h3] at h
          cases h
  · rintro ⟨h1, rfl⟩
    obtain ⟨w, r, e, q⟩ := text_glue x h1
    rw [e]
    cases x with
    | boat n =>
      obtain ⟨rfl, rfl⟩ := q
      show (if nameOk n = true then some (LogLine.boat n) else none) = _
      rw [if_pos (show nameOk n = true from h1)]
    | wind p =>
      obtain ⟨rfl, rfl⟩ := q
      replace h1 : (decide (p.x.natAbs ≤ FAR) && decide (p.y.natAbs ≤ FAR)) = true := h1
      rw [Bool.and_eq_true, decide_eq_true_iff, decide_eq_true_iff] at h1
      show readWind [signedText p.x, signedText p.y] = _
      unfold readWind
      rw [show readNumbers [signedText p.x, signedText p.y] = some [p.x, p.y] from readNumbers_some.mpr ⟨rfl, fun z hz => by
        rcases List.mem_cons.mp hz with rfl | hz
        · exact h1.1
        · rcases List.mem_cons.mp hz with rfl | hz
          · exact h1.2
          · cases hz⟩]
    | at_ l =>
      obtain ⟨rfl, rfl⟩ := q
      replace h1 : (decide (1 ≤ l.length) && (decide (l.length ≤ 64) && l.all fun (h : Hull) => h.bow.ok && h.stern.ok)) = true := h1
      rw [Bool.and_eq_true, Bool.and_eq_true, decide_eq_true_iff, decide_eq_true_iff] at h1
      show readAt ((l.flatMap hullNums).map signedText) = _
      unfold readAt
      rw [readNumbers_some.mpr ⟨rfl, (hulls_ok l).mp h1.2.2⟩]
      show (if _ then _ else _) = _
      rw [if_pos, nums_hulls]
      rw [nums_len]
      omega
theorem readLine_eq (b : Bytes) : readLine b = lineIn b := by
  cases h : readLine b with
  | some x => exact (lineIn_some.mpr (readLine_some.mp h)).symm
  | none =>
    cases h' : lineIn b with
    | none => rfl
    | some x =>
      rw [readLine_some.mpr (lineIn_some.mp h')] at h
      cases h
end Bl
end
section
namespace Bl
open Rg
def linesOf (t : Bytes) : List Bytes := (cutAt 10 t).dropLast
def lastOf (t : Bytes) : Bytes := (cutAt 10 t).getLastD []
theorem lines_last (t : Bytes) : cutAt 10 t = linesOf t ++ [lastOf t] := by
  unfold linesOf lastOf
  have h := cutAt_ne 10 t
  rw [List.getLastD_eq_getLast?, List.getLast?_eq_some_getLast h]
  exact (List.dropLast_concat_getLast h).symm
theorem lines_uniq {t : Bytes} {a : List Bytes} {b : Bytes} (h : cutAt 10 t = a ++ [b]) : linesOf t = a ∧ lastOf t = b := by
  rw [lines_last] at h
  obtain ⟨h1, h2⟩ := List.append_inj' h rfl
  exact ⟨h1, (List.cons.inj h2).1⟩
theorem nil_lines : linesOf [] = [] ∧ lastOf [] = [] := lines_uniq (a := []) (b := []) rfl
theorem mark_lines (r : Bytes) : linesOf (10 :: r) = [] :: linesOf r ∧ lastOf (10 :: r) = lastOf r := by
  refine lines_uniq ?_
  rw [cutAt_mark, lines_last r]
  rfl
theorem other_lines {c : UInt8} (h : c ≠ 10) (r : Bytes) : (linesOf r = [] ∧ linesOf (c :: r) = [] ∧ lastOf (c :: r) = c :: lastOf r) ∨ (∃ l m, linesOf r = l :: m ∧ linesOf (c :: r) = (c :: l) :: m ∧ lastOf (c :: r) = lastOf r) := by
  have e := lines_last r
  cases q : linesOf r with
  | nil =>
    rw [q] at e
    left
    have e' := cutAt_other (x := 10) (c := c) r h (show cutAt 10 r = lastOf r :: [] from e)
    obtain ⟨a, b⟩ := lines_uniq (a := []) e'
    exact ⟨rfl, a, b⟩
  | cons l m =>
    rw [q] at e
    right
    have e' := cutAt_other (x := 10) (c := c) r h (show cutAt 10 r = l :: (m ++ [lastOf r]) from e)
    obtain ⟨a, b⟩ := lines_uniq (a := (c :: l) :: m) e'
    exact ⟨l, m, rfl, a, b⟩
theorem split_lines : ∀ t : Bytes, splitLines t = if lastOf t = [] then linesOf t else linesOf t ++ [lastOf t]
  | [] => by
    rw [nil_lines.1, nil_lines.2, if_pos rfl]
    rfl
  | c :: r => by
    have ih := split_lines r
    by_cases h : c = 10
    · subst h
      show (if (10 : UInt8) = 10 then [] :: splitLines r else _) = _
      rw [if_pos rfl, ih, (mark_lines r).1, (mark_lines r).2]
      split <;> rfl
    · show (if c = 10 then _ else match splitLines r with | [] => [[c]] | l :: m => (c :: l) :: m) = _
      rw [if_neg h, ih]
      rcases other_lines h r with ⟨e1, e2, e3⟩ | ⟨l, m, e1, e2, e3⟩
      · rw [e1, e2, e3, if_neg (List.cons_ne_nil _ _)]
        by_cases hl : lastOf r = []
        · rw [if_pos hl, hl]
          rfl
        · rw [if_neg hl]
          rfl
      · rw [e1, e2, e3]
        by_cases hl : lastOf r = []
        · rw [if_pos hl, if_pos hl]
        · rw [if_neg hl, if_neg hl]
          rfl
theorem bare_lines : ∀ t : Bytes, (t.getLast? != some 10) = true ↔ t = [] ∨ lastOf t ≠ []
  | [] => by
    constructor
    · exact fun _ => .inl rfl
    · exact fun _ => rfl
  | [c] => by
    by_cases h : c = 10
    · subst h
      rw [(mark_lines []).2, nil_lines.2]
      constructor
      · intro q; exact absurd q (by decide)
      · rintro (q | q)
        · cases q
        · exact absurd rfl q
    · constructor
      · intro _
        right
        rcases other_lines h [] with ⟨_, _, e3⟩ | ⟨l, m, e1, _⟩
        · rw [e3]; intro q; cases q
        · rw [nil_lines.1] at e1; cases e1
      · intro _
        show (some c != some 10) = true
        rw [bne_iff_ne]
        intro q
        exact h (Option.some.inj q)
  | c :: d :: r => by
    have ih := bare_lines (d :: r)
    rw [List.getLast?_cons_cons, ih]
    have e : lastOf (c :: d :: r) ≠ [] ↔ lastOf (d :: r) ≠ [] := by
      by_cases h : c = 10
      · subst h
        rw [(mark_lines _).2]
      · rcases other_lines h (d :: r) with ⟨e1, _, e3⟩ | ⟨l, m, _, _, e3⟩
        · rw [e3]
          constructor
          · intro _ q
            have := glue_cut 10 (d :: r)
            rw [lines_last, e1, q] at this
            cases this
          · intro _ q; cases q
        · rw [e3]
    rw [e]
    constructor
    · rintro (q | q)
      · cases q
      · exact .inr q
    · rintro (q | q)
      · cases q
      · exact .inr q
def addLines : Log → List Bytes → Except (Nat × Nat) Log
  | l, [] => .ok l
  | l, b :: r => match lineIn b with
    | none => .error (l.length, 1)
    | some x => if wrongOf l x = 0 then addLines (l ++ [x]) r else .error (l.length, wrongOf l x)
theorem addLines_cons (l : Log) (b : Bytes) (r : List Bytes) : addLines l (b :: r) = match lineIn b with
    | none => .error (l.length, 1)
    | some x => if wrongOf l x = 0 then addLines (l ++ [x]) r else .error (l.length, wrongOf l x) := rfl
def write (l : Log) (t : Bytes) : Except (Nat × Nat) Log := match addLines l (linesOf t) with
  | .error e => .error e
  | .ok m => if lastOf t = [] then .ok m else .error (m.length, 1)
theorem logFrom_false : ∀ (bs : List Bytes) (l : Log), logFrom false l bs = addLines l bs
  | [], l => rfl
  | b :: r, l => by
    unfold logFrom addLines
    show (match lineIn b with | none => _ | some x => _) = _
    cases lineIn b with
    | none => rfl
    | some x =>
      show (if wrongOf l x = 0 then logFrom false (l ++ [x]) r else _) = (if wrongOf l x = 0 then addLines (l ++ [x]) r else _)
      rw [logFrom_false r]
theorem logFrom_true (e : Bytes) : ∀ (bs : List Bytes) (l : Log), logFrom true l (bs ++ [e]) = match addLines l bs with
    | .error e => .error e
    | .ok m => .error (m.length, 1)
  | [], l => rfl
  | b :: r, l => by
    show logFrom true l (b :: (r ++ [e])) = _
    unfold logFrom addLines
    have he : (r ++ [e]).isEmpty = false := by cases r <;> rfl
    rw [he]
    show (match lineIn b with | none => _ | some x => _) = _
    cases lineIn b with
    | none => rfl
    | some x =>
      show (if wrongOf l x = 0 then logFrom true (l ++ [x]) (r ++ [e]) else _) = (match (if wrongOf l x = 0 then addLines (l ++ [x]) r else .error (l.length, wrongOf l x)) with | .error e => .error e | .ok m => .error (m.length, 1))
      rw [logFrom_true e r]
      split
      · rfl
      · rfl
theorem readLog_write (t : Bytes) : readLog t = write [] t := by
  unfold readLog write
  rw [split_lines]
  have hb := bare_lines t
  cases hq : (t.getLast? != some 10) with
  | false =>
    rw [hq] at hb
    have hl : lastOf t = [] := Classical.byContradiction fun q => absurd (hb.mpr (.inr q)) (by decide)
    rw [if_pos hl, logFrom_false]
    cases addLines [] (linesOf t) with
    | error e => rfl
    | ok m =>
      show _ = if lastOf t = [] then _ else _
      rw [if_pos hl]
  | true =>
    rcases hb.mp hq with q | q
    · subst q
      rw [nil_lines.1, nil_lines.2]
      rfl
    · rw [if_neg q, logFrom_true]
      cases addLines [] (linesOf t) with
      | error e => rfl
      | ok m =>
        show _ = if lastOf t = [] then _ else _
        rw [if_neg q]
theorem addLines_append : ∀ (as bs : List Bytes) (l : Log), addLines l (as ++ bs) = match addLines l as with
    | .error e => .error e
    | .ok m => addLines m bs
  | [], bs, l => rfl
  | a :: r, bs, l => by
    show addLines l (a :: (r ++ bs)) = _
    rw [addLines_cons, addLines_cons]
    cases lineIn a with
    | none => rfl
    | some x =>
      show (if wrongOf l x = 0 then addLines (l ++ [x]) (r ++ bs) else _) = (match (if wrongOf l x = 0 then addLines (l ++ [x]) r else .error (l.length, wrongOf l x)) with | .error e => .error e | .ok m => addLines m bs)
      rw [addLines_append r bs]
      split
      · rfl
      · rfl
theorem cut_lines_append (u : Bytes) : ∀ t : Bytes, lastOf t = [] → linesOf (t ++ u) = linesOf t ++ linesOf u ∧ lastOf (t ++ u) = lastOf u
  | [], _ => by
    rw [nil_lines.1]
    exact ⟨rfl, rfl⟩
  | c :: r, h => by
    by_cases hc : c = 10
    · subst hc
      rw [(mark_lines r).2] at h
      obtain ⟨i1, i2⟩ := cut_lines_append u r h
      show linesOf (10 :: (r ++ u)) = _ ∧ lastOf (10 :: (r ++ u)) = _
      rw [(mark_lines _).1, (mark_lines _).2, (mark_lines r).1, i1, i2]
      exact ⟨rfl, rfl⟩
    · rcases other_lines hc r with ⟨e1, e2, e3⟩ | ⟨l, m, e1, e2, e3⟩
      · rw [e3] at h; cases h
      · rw [e3] at h
        obtain ⟨i1, i2⟩ := cut_lines_append u r h
        rcases other_lines hc (r ++ u) with ⟨f1, f2, f3⟩ | ⟨l', m', f1, f2, f3⟩
        · rw [i1, e1] at f1; cases f1
        · rw [i1, e1] at f1
          obtain ⟨g1, g2⟩ := List.cons.inj f1
          show linesOf (c :: (r ++ u)) = _ ∧ lastOf (c :: (r ++ u)) = _
          rw [f2, f3, e2, i2, ← g1, ← g2]
          exact ⟨rfl, rfl⟩
def Held (l : Log) : Prop := write [] (logText l) = .ok l
theorem held_nil : Held [] := by
  unfold Held write
  rw [show logText [] = [] from rfl, nil_lines.1, nil_lines.2]
  rfl
theorem more_write {l : Log} (h : Held l) (t : Bytes) : readLog (logText l ++ t) = write l t := by
  rw [readLog_write]
  unfold Held at h
  unfold write at h ⊢
  cases ha : addLines [] (linesOf (logText l)) with
  | error e => rw [ha] at h; cases h
  | ok m =>
    rw [ha] at h
    replace h : (if lastOf (logText l) = [] then (Except.ok m : Except (Nat × Nat) Log) else .error (m.length, 1)) = .ok l := h
    split at h
    · rename_i hl
      cases h
      obtain ⟨e1, e2⟩ := cut_lines_append t _ hl
      rw [e1, e2, addLines_append, ha]
    · cases h
theorem logText_append (l m : Log) : logText (l ++ m) = logText l ++ logText m := by
  unfold logText
  rw [List.flatMap_append]
theorem addLines_text : ∀ (bs : List Bytes) (l m : Log), addLines l bs = .ok m → logText m = logText l ++ bs.flatMap fun b => b ++ [10]
  | [], l, m, h => by
    cases h
    simp
  | b :: r, l, m, h => by
    unfold addLines at h
    cases hx : lineIn b with
    | none => rw [hx] at h; cases h
    | some x =>
      rw [hx] at h
      replace h : (if wrongOf l x = 0 then addLines (l ++ [x]) r else .error (l.length, wrongOf l x)) = .ok m := h
      split at h
      · rw [addLines_text r _ _ h, logText_append, List.flatMap_cons]
        have : logText [x] = b ++ [10] := by
          show (x.text ++ [10]) ++ [] = _
          rw [List.append_nil, (lineIn_some.mp hx).2]
        rw [this, List.append_assoc]
      · cases h
theorem lines_text : ∀ t : Bytes, ((linesOf t).flatMap fun b => b ++ [10]) ++ lastOf t = t
  | [] => by rw [nil_lines.1, nil_lines.2]; rfl
  | c :: r => by
    have ih := lines_text r
    by_cases hc : c = 10
    · subst hc
      rw [(mark_lines r).1, (mark_lines r).2, List.flatMap_cons]
      show 10 :: (((linesOf r).flatMap fun b => b ++ [10]) ++ lastOf r) = _
      rw [ih]
    · rcases other_lines hc r with ⟨e1, e2, e3⟩ | ⟨l, m, e1, e2, e3⟩
      · rw [e1] at ih
        rw [e2, e3]
        show c :: lastOf r = c :: r
        rw [show lastOf r = r from ih]
      · rw [e1, List.flatMap_cons] at ih
        rw [e2, e3, List.flatMap_cons]
        show c :: (((l ++ [10]) ++ _) ++ _) = c :: r
        rw [ih]
theorem write_text {l m : Log} {t : Bytes} (h : write l t = .ok m) : logText m = logText l ++ t := by
  unfold write at h
  cases ha : addLines l (linesOf t) with
  | error e => rw [ha] at h; cases h
  | ok k =>
    rw [ha] at h
    replace h : (if lastOf t = [] then (Except.ok k : Except (Nat × Nat) Log) else .error (k.length, 1)) = .ok m := h
    split at h
    · rename_i hl
      cases h
      have := lines_text t
      rw [hl, List.append_nil] at this
      rw [addLines_text _ _ _ ha, this]
    · cases h
theorem held_take {m : Log} {t : Bytes} (h : write [] t = .ok m) : Held m := by
  unfold Held
  rw [write_text h]
  exact h
theorem held_more {l m : Log} {t : Bytes} (hl : Held l) (h : write l t = .ok m) : Held m := by
  unfold Held
  rw [write_text h, ← readLog_write, more_write hl]
  exact h
end Bl
end
section
namespace Bl
open Rg
theorem boats_append (l m : Log) : boats (l ++ m) = boats l ++ boats m := List.filterMap_append
theorem winds_append (l m : Log) : winds (l ++ m) = winds l ++ winds m := List.filterMap_append
def lw : Option Pt → Log → Option Pt
  | o, [] => o
  | _, .wind w :: r => lw (some w) r
  | o, .boat _ :: r => lw o r
  | o, .at_ _ :: r => lw o r
theorem lw_winds : ∀ (l : Log) (o : Option Pt), lw o l = ((winds l).getLast?).or o
  | [], o => by cases o <;> rfl
  | .wind w :: r, o => by
    show lw (some w) r = _
    rw [lw_winds r]
    show _ = ((w :: winds r).getLast?).or o
    cases h : winds r with
    | nil => rfl
    | cons a b =>
      rw [List.getLast?_cons_cons]
      cases h2 : (a :: b).getLast? with
      | none => rw [List.getLast?_eq_none_iff] at h2; cases h2
      | some q => rfl
  | .boat _ :: r, o => lw_winds r o
  | .at_ _ :: r, o => lw_winds r o
theorem momentsFrom_append : ∀ (l m : Log) (o : Option Pt), momentsFrom o (l ++ m) = momentsFrom o l ++ momentsFrom (lw o l) m
  | [], m, o => rfl
  | .wind w :: r, m, o => momentsFrom_append r m (some w)
  | .boat _ :: r, m, o => momentsFrom_append r m o
  | .at_ h :: r, m, some w => by
    show (w, h) :: momentsFrom (some w) (r ++ m) = (w, h) :: momentsFrom (some w) r ++ momentsFrom (lw (some w) r) m
    rw [momentsFrom_append r m]
    rfl
  | .at_ h :: r, m, none => momentsFrom_append r m none
theorem moments_snoc (l : Log) (x : LogLine) : moments (l ++ [x]) = moments l ++ momentsFrom ((winds l).getLast?) [x] := by
  unfold moments
  rw [momentsFrom_append, lw_winds, Option.or_none]
def isBoat : LogLine → Bool
  | .boat _ => true
  | _ => false
structure Fit (l : Log) : Prop where
  first : winds l = [] → (l.all isBoat) = true
  nb : (boats l).length ≤ 64
  nw : (winds l).length ≤ 4096
  nm : (moments l).length ≤ 4096
  each : ∀ m ∈ moments l, m.2.length = (boats l).length
  some_ : winds l ≠ [] → boats l ≠ []
theorem fit_nil : Fit [] := ⟨fun _ => rfl, by decide, by decide, by decide, fun m h => (by cases h), fun h => absurd rfl h⟩
theorem stands_boat (l : Log) (n : Name) : stands l (.boat n) = l.all isBoat := by
  show l.all _ = l.all _
  congr 1
theorem allBoat_winds : ∀ {l : Log}, (l.all isBoat) = true → winds l = []
  | [], _ => rfl
  | .boat _ :: r, h => allBoat_winds (l := r) (by simpa [isBoat] using h)
  | .wind _ :: r, h => by simp [isBoat] at h
  | .at_ _ :: r, h => by simp [isBoat] at h
theorem allBoat_moments : ∀ {l : Log} {o : Option Pt}, (l.all isBoat) = true → momentsFrom o l = []
  | [], _, _ => rfl
  | .boat _ :: r, o, h => allBoat_moments (l := r) (o := o) (by simpa [isBoat] using h)
  | .wind _ :: r, _, h => by simp [isBoat] at h
  | .at_ _ :: r, _, h => by simp [isBoat] at h
theorem wrong_boat {l : Log} (F : Fit l) (n : Name) : wrongOf l (.boat n) = if (winds l).length > 0 then 3 else if (boats l).contains n = true then 4 else if (boats l).length = 64 then 2 else 0 := by
  unfold wrongOf
  rw [stands_boat]
  by_cases hw : winds l = []
  · have h1 := F.first hw
    rw [hw, h1, if_neg (show ¬ true = false by decide), if_neg (show ¬ ([] : List Pt).length > 0 by decide)]
    show (if (boats l).contains n = true then 4 else _) = _
    by_cases hc : (boats l).contains n = true
    · rw [if_pos hc, if_pos hc]
    · rw [if_neg hc, if_neg hc]
      have e : tooMany l (.boat n) = decide ((boats l).length = 64) := by
        unfold tooMany
        show (decide (BOATS < (boats (l ++ [LogLine.boat n])).length) || (decide (MOMENTS < (moments (l ++ [LogLine.boat n])).length) || decide (MOMENTS < (winds (l ++ [LogLine.boat n])).length))) = _
        rw [boats_append, winds_append, moments_snoc]
        have a1 : (boats l ++ boats [LogLine.boat n]).length = (boats l).length + 1 := by rw [List.length_append]; rfl
        have a2 : (moments l ++ momentsFrom (winds l).getLast? [LogLine.boat n]).length = (moments l).length := by rw [List.length_append]; rfl
        have a3 : (winds l ++ winds [LogLine.boat n]).length = (winds l).length := by rw [List.length_append]; rfl
        rw [a1, a2, a3]
        have b1 := F.nb; have b2 := F.nm; have b3 := F.nw
        rw [decide_eq_false (show ¬ MOMENTS < (moments l).length by unfold MOMENTS; omega), decide_eq_false (show ¬ MOMENTS < (winds l).length by unfold MOMENTS; omega), Bool.or_false, Bool.or_false]
        congr 1
        unfold BOATS
        apply propext
        omega
      rw [e]
      by_cases h64 : (boats l).length = 64
      · rw [if_pos h64, decide_eq_true h64, if_pos rfl]
      · rw [if_neg h64, decide_eq_false h64, if_neg (by decide)]
  · have h1 : (l.all isBoat) = false := by
      cases q : l.all isBoat with
      | false => rfl
      | true => exact absurd (allBoat_winds q) hw
    rw [h1, if_pos rfl, if_pos]
    cases h : winds l with
    | nil => exact absurd h hw
    | cons a b => simp
theorem wrong_wind {l : Log} (F : Fit l) (w : Pt) : wrongOf l (.wind w) = if (boats l).length = 0 then 3 else if w = ⟨0, 0⟩ ∨ (winds l).getLast? = some w then 4 else if (winds l).length = 4096 then 2 else 0 := by
  unfold wrongOf
  show (if (!(boats l).isEmpty) = false then 3 else if (w == ⟨0, 0⟩ || (winds l).getLast? == some w) = true then 4 else if tooMany l (.wind w) = true then 2 else 0) = _
  by_cases hb : (boats l).length = 0
  · rw [if_pos hb, List.length_eq_zero_iff.mp hb]
    rfl
  · have hne : (boats l).isEmpty = false := by
      cases h : boats l with
      | nil => rw [h] at hb; exact absurd rfl hb
      | cons a b => rfl
    rw [if_neg hb, hne, if_neg (by decide)]
    have e0 : (w == ⟨0, 0⟩ || (winds l).getLast? == some w) = true ↔ (w = ⟨0, 0⟩ ∨ (winds l).getLast? = some w) := by
      rw [Bool.or_eq_true, beq_iff_eq, beq_iff_eq]
    by_cases hc : w = ⟨0, 0⟩ ∨ (winds l).getLast? = some w
    · rw [if_pos hc, if_pos (e0.mpr hc)]
    · rw [if_neg hc, if_neg (fun q => hc (e0.mp q))]
      have e : tooMany l (.wind w) = decide ((winds l).length = 4096) := by
        unfold tooMany
        show (decide (BOATS < (boats (l ++ [LogLine.wind w])).length) || (decide (MOMENTS < (moments (l ++ [LogLine.wind w])).length) || decide (MOMENTS < (winds (l ++ [LogLine.wind w])).length))) = _
        rw [boats_append, winds_append, moments_snoc]
        have a1 : (boats l ++ boats [LogLine.wind w]).length = (boats l).length := by rw [List.length_append]; rfl
        have a2 : (moments l ++ momentsFrom (winds l).getLast? [LogLine.wind w]).length = (moments l).length := by rw [List.length_append]; rfl
        have a3 : (winds l ++ winds [LogLine.wind w]).length = (winds l).length + 1 := by rw [List.length_append]; rfl
        rw [a1, a2, a3]
        have b1 := F.nb; have b2 := F.nm; have b3 := F.nw
        rw [decide_eq_false (show ¬ BOATS < (boats l).length by unfold BOATS; omega), decide_eq_false (show ¬ MOMENTS < (moments l).length by unfold MOMENTS; omega), Bool.false_or, Bool.false_or]
        congr 1
        unfold MOMENTS
        apply propext
        omega
      rw [e]
      by_cases h64 : (winds l).length = 4096
      · rw [if_pos h64, decide_eq_true h64, if_pos rfl]
      · rw [if_neg h64, decide_eq_false h64, if_neg (by decide)]
def hullsClash (before : Option (List Hull)) (h : List Hull) : Bool := h.any (fun (x : Hull) => x.bow == x.stern) || match before with
  | some b => (b.zip h).any fun (p : Hull × Hull) => turnedBack p.1 p.2
  | none => false
theorem wrong_at {l : Log} (F : Fit l) (h : List Hull) : wrongOf l (.at_ h) = if (winds l).length = 0 ∨ h.length ≠ (boats l).length then 3 else if hullsClash ((moments l).getLast?.map (·.2)) h = true then 4 else if (moments l).length = 4096 then 2 else 0 := by
  unfold wrongOf
  have e1 : stands l (.at_ h) = false ↔ ((winds l).length = 0 ∨ h.length ≠ (boats l).length) := by
    show (!(winds l).isEmpty && h.length == (boats l).length) = false ↔ _
    rw [Bool.and_eq_false_iff, Bool.not_eq_false', List.isEmpty_iff, ← List.length_eq_zero_iff, beq_eq_false_iff_ne]
  have e2 : clashes l (.at_ h) = hullsClash ((moments l).getLast?.map (·.2)) h := by
    show (h.any (fun (x : Hull) => x.bow == x.stern) || match (moments l).getLast? with | some m => (m.2.zip h).any fun (p : Hull × Hull) => turnedBack p.1 p.2 | none => false) = _
    unfold hullsClash
    cases (moments l).getLast? <;> rfl
  by_cases hs : (winds l).length = 0 ∨ h.length ≠ (boats l).length
  · rw [if_pos hs, if_pos (e1.mpr hs)]
  · rw [if_neg hs, if_neg (fun q => hs (e1.mp q)), e2]
    by_cases hc : hullsClash ((moments l).getLast?.map (·.2)) h = true
    · rw [if_pos hc, if_pos hc]
    · rw [if_neg hc, if_neg hc]
      have hw : ∃ w, (winds l).getLast? = some w := by
        cases q : (winds l).getLast? with
        | none => exact absurd (.inl (by rw [List.getLast?_eq_none_iff.mp q]; rfl)) hs
        | some w => exact ⟨w, rfl⟩
      obtain ⟨w, hw⟩ := hw
      have e : tooMany l (.at_ h) = decide ((moments l).length = 4096) := by
        unfold tooMany
        show (decide (BOATS < (boats (l ++ [LogLine.at_ h])).length) || (decide (MOMENTS < (moments (l ++ [LogLine.at_ h])).length) || decide (MOMENTS < (winds (l ++ [LogLine.at_ h])).length))) = _
        rw [boats_append, winds_append, moments_snoc, hw]
        have a1 : (boats l ++ boats [LogLine.at_ h]).length = (boats l).length := by rw [List.length_append]; rfl
        have a2 : (moments l ++ momentsFrom (some w) [LogLine.at_ h]).length = (moments l).length + 1 := by rw [List.length_append]; rfl
        have a3 : (winds l ++ winds [LogLine.at_ h]).length = (winds l).length := by rw [List.length_append]; rfl
        rw [a1, a2, a3]
        have b1 := F.nb; have b2 := F.nm; have b3 := F.nw
        rw [decide_eq_false (show ¬ BOATS < (boats l).length by unfold BOATS; omega), decide_eq_false (show ¬ MOMENTS < (winds l).length by unfold MOMENTS; omega), Bool.false_or, Bool.or_false]
        congr 1
        unfold MOMENTS
        apply propext
        omega
      rw [e]
      by_cases h64 : (moments l).length = 4096
      · rw [if_pos h64, decide_eq_true h64, if_pos rfl]
      · rw [if_neg h64, decide_eq_false h64, if_neg (by decide)]
theorem Fit.add {l : Log} (F : Fit l) {x : LogLine} (h : wrongOf l x = 0) : Fit (l ++ [x]) := by
  have b1 := F.nb; have b2 := F.nm; have b3 := F.nw
  cases x with
  | boat n =>
    rw [wrong_boat F] at h
    have hw : winds l = [] := by
      cases q : winds l with
      | nil => rfl
      | cons a b => rw [q, if_pos (by simp)] at h; cases h
    rw [hw, if_neg (by decide)] at h
    split at h
    · cases h
    · split at h
      · cases h
      · have ha := F.first hw
        refine ⟨fun _ => ?_, ?_, ?_, ?_, ?_, ?_⟩
        · rw [List.all_append, ha]; rfl
        · rw [boats_append, List.length_append]; show _ + 1 ≤ _; omega
        · rw [winds_append, List.length_append]; exact b3
        · rw [moments_snoc, List.length_append]; exact b2
        · intro m hm
          rw [moments_snoc] at hm
          have : moments l = [] := allBoat_moments ha
          rw [this] at hm
          cases hm
        · intro q
          rw [winds_append, hw] at q
          exact absurd rfl q
  | wind w =>
    rw [wrong_wind F] at h
    split at h
    · cases h
    · rename_i hb
      split at h
      · cases h
      · split at h
        · cases h
        · have hbn : boats l ≠ [] := fun q => hb (by rw [q]; rfl)
          refine ⟨fun q => ?_, ?_, ?_, ?_, ?_, ?_⟩
          · rw [winds_append] at q
            exact absurd (List.append_eq_nil_iff.mp q).2 (by intro z; cases z)
          · rw [boats_append, List.length_append]; exact b1
          · rw [winds_append, List.length_append]; show _ + 1 ≤ _; omega
          · rw [moments_snoc, List.length_append]; exact b2
          · intro m hm
            rw [moments_snoc, show momentsFrom (winds l).getLast? [LogLine.wind w] = [] from rfl, List.append_nil] at hm
            rw [boats_append, show boats [LogLine.wind w] = [] from rfl, List.append_nil]
            exact F.each m hm
          · intro _
            rw [boats_append, show boats [LogLine.wind w] = [] from rfl, List.append_nil]
            exact hbn
  | at_ hs =>
    rw [wrong_at F] at h
    split at h
    · cases h
    · rename_i hb
      split at h
      · cases h
      · split at h
        · cases h
        · have hwn : winds l ≠ [] := fun q => hb (.inl (by rw [q]; rfl))
          have hlen : hs.length = (boats l).length := Classical.byContradiction fun q => hb (.inr q)
          obtain ⟨w, hw⟩ : ∃ w, (winds l).getLast? = some w := by
            cases q : (winds l).getLast? with
            | none => exact absurd (List.getLast?_eq_none_iff.mp q) hwn
            | some w => exact ⟨w, rfl⟩
          have e1 : boats (l ++ [LogLine.at_ hs]) = boats l := by rw [boats_append, show boats [LogLine.at_ hs] = [] from rfl, List.append_nil]
          have e2 : winds (l ++ [LogLine.at_ hs]) = winds l := by rw [winds_append, show winds [LogLine.at_ hs] = [] from rfl, List.append_nil]
          have e3 : moments (l ++ [LogLine.at_ hs]) = moments l ++ [(w, hs)] := by rw [moments_snoc, hw]; rfl
          refine ⟨fun q => ?_, ?_, ?_, ?_, ?_, ?_⟩
          · rw [e2] at q; exact absurd q hwn
          · rw [e1]; exact b1
          · rw [e2]; exact b3
          · rw [e3, List.length_append]; show _ + 1 ≤ _; omega
          · intro m hm
            rw [e3] at hm
            rw [e1]
            rcases List.mem_append.mp hm with hm | hm
            · exact F.each m hm
            · rcases List.mem_cons.mp hm with rfl | hm
              · exact hlen
              · cases hm
          · intro _; rw [e1]; exact F.some_ hwn
theorem Fit.lines : ∀ {bs : List Bytes} {l m : Log}, Fit l → addLines l bs = .ok m → Fit m
  | [], l, m, F, h => by cases h; exact F
  | b :: r, l, m, F, h => by
    rw [addLines_cons] at h
    cases hx : lineIn b with
    | none => rw [hx] at h; cases h
    | some x =>
      rw [hx] at h
      replace h : (if wrongOf l x = 0 then addLines (l ++ [x]) r else .error (l.length, wrongOf l x)) = .ok m := h
      split at h
      · rename_i hw
        exact Fit.lines (F.add hw) h
      · cases h
end Bl
end
section
namespace Bl
open Rg
abbrev Mom := Pt × List Hull
def tacksWith (before : List Bool) (m : Mom) : List Bool := (before.zip m.2).map fun (p : Bool × Hull) => onStarboard p.2 m.1 p.1
def tacksAll : List Bool → List Mom → List (List Bool)
  | _, [] => []
  | b, m :: r => tacksWith b m :: tacksAll (tacksWith b m) r
theorem tacksAll_length : ∀ (ms : List Mom) (b : List Bool), (tacksAll b ms).length = ms.length
  | [], _ => rfl
  | m :: r, b => by
    show (tacksAll _ r).length + 1 = r.length + 1
    rw [tacksAll_length r]
theorem tacksAll_snoc : ∀ (ms : List Mom) (b : List Bool) (m : Mom), tacksAll b (ms ++ [m]) = tacksAll b ms ++ [tacksWith ((tacksAll b ms).getLastD b) m]
  | [], b, m => rfl
  | k :: r, b, m => by
    show tacksWith b k :: tacksAll (tacksWith b k) (r ++ [m]) = _
    rw [tacksAll_snoc r]
    show _ = tacksWith b k :: (tacksAll (tacksWith b k) r ++ [tacksWith ((tacksWith b k :: tacksAll (tacksWith b k) r).getLastD b) m])
    congr 4
    cases tacksAll (tacksWith b k) r with
    | nil => rfl
    | cons x y =>
      simp [List.getLastD]
theorem tacksWith_length {b : List Bool} {m : Mom} (h : m.2.length = b.length) : (tacksWith b m).length = b.length := by
  unfold tacksWith
  rw [List.length_map, List.length_zip, h, Nat.min_self]
theorem tacksWith_get {b : List Bool} {m : Mom} {i : Nat} {x : Bool} {h : Hull} (hb : b[i]? = some x) (hm : m.2[i]? = some h) : (tacksWith b m)[i]? = some (onStarboard h m.1 x) := by
  unfold tacksWith
  rw [List.getElem?_map, List.getElem?_zip_eq_some.mpr (show b[i]? = some (x, h).1 ∧ m.2[i]? = some (x, h).2 from ⟨hb, hm⟩)]
  rfl
def trackOf (ms : List Mom) (i : Nat) : List (Pt × Hull) := ms.filterMap fun (m : Mom) => (m.2[i]?).map fun (h : Hull) => (m.1, h)
theorem track_eq (l : Log) (i : Nat) : track l i = trackOf (moments l) i := rfl
theorem track_cons {m : Mom} {i : Nat} {h : Hull} (e : m.2[i]? = some h) (r : List Mom) : trackOf (m :: r) i = (m.1, h) :: trackOf r i := by
  unfold trackOf
  rw [List.filterMap_cons, e]
  rfl
theorem track_get : ∀ {ms : List Mom} {n i : Nat}, (∀ m ∈ ms, m.2.length = n) → i < n → ∀ (k : Nat), (trackOf ms i)[k]? = (ms[k]?).bind fun (m : Mom) => (m.2[i]?).map fun h => (m.1, h)
  | [], n, i, _, _, k => by
    show ([] : List (Pt × Hull))[k]? = _
    simp
  | m :: r, n, i, he, hi, k => by
    obtain ⟨h, hh⟩ : ∃ h, m.2[i]? = some h := ⟨_, List.getElem?_eq_getElem (by rw [he m List.mem_cons_self]; exact hi)⟩
    rw [track_cons hh]
    cases k with
    | zero => simp [hh]
    | succ k =>
      rw [List.getElem?_cons_succ, List.getElem?_cons_succ]
      exact track_get (fun m' hm' => he m' (List.mem_cons_of_mem _ hm')) hi k
theorem track_none {ms : List Mom} {n i : Nat} (he : ∀ m ∈ ms, m.2.length = n) (hi : ¬ i < n) : trackOf ms i = [] := by
  induction ms with
  | nil => rfl
  | cons m r ih =>
    have : m.2[i]? = none := List.getElem?_eq_none_iff.mpr (by rw [he m List.mem_cons_self]; omega)
    unfold trackOf
    rw [List.filterMap_cons, this]
    exact ih fun m' hm' => he m' (List.mem_cons_of_mem _ hm')
theorem tacks_get : ∀ {ms : List Mom} {n i : Nat} {b : List Bool} {x : Bool}, (∀ m ∈ ms, m.2.length = n) → b.length = n → b[i]? = some x → ∀ (k : Nat), (tacksFrom x (trackOf ms i))[k]? = ((tacksAll b ms)[k]?).bind fun (t : List Bool) => t[i]?
  | [], n, i, b, x, _, _, _, k => by
    show ([] : List Bool)[k]? = _
    simp [tacksAll]
  | m :: r, n, i, b, x, he, hb, hx, k => by
    have hi : i < n := by rw [← hb]; exact (List.getElem?_eq_some_iff.mp hx).1
    have hm := he m List.mem_cons_self
    obtain ⟨h, hh⟩ : ∃ h, m.2[i]? = some h := ⟨_, List.getElem?_eq_getElem (by rw [hm]; exact hi)⟩
    rw [track_cons hh]
    have e := tacksWith_get hx hh
    show (onStarboard h m.1 x :: tacksFrom (onStarboard h m.1 x) (trackOf r i))[k]? = ((tacksWith b m :: tacksAll (tacksWith b m) r)[k]?).bind fun t => t[i]?
    cases k with
    | zero => simp [e]
    | succ k =>
      rw [List.getElem?_cons_succ, List.getElem?_cons_succ]
      exact tacks_get (fun m' hm' => he m' (List.mem_cons_of_mem _ hm')) (by rw [tacksWith_length (by rw [hm, hb]), hb]) e k
def tacksOf (l : Log) : List (List Bool) := tacksAll (List.replicate (boats l).length true) (moments l)
theorem tacks_log {l : Log} (F : Fit l) {i : Nat} (hi : i < (boats l).length) (k : Nat) : (tacks l i)[k]? = ((tacksOf l)[k]?).bind fun t => t[i]? := by
  unfold tacks
  rw [track_eq]
  exact tacks_get F.each (List.length_replicate ..) (by rw [List.getElem?_replicate, if_pos hi]) k
theorem tacks_none {l : Log} (F : Fit l) {i : Nat} (hi : ¬ i < (boats l).length) : tacks l i = [] := by
  unfold tacks
  rw [track_eq, track_none F.each hi]
  rfl
end Bl
end
section
namespace Bl
open Rg
def AllOk (l : Log) : Prop := ∀ x ∈ l, x.ok = true
theorem AllOk.nil : AllOk [] := fun x h => by cases h
theorem AllOk.add {l : Log} {x : LogLine} (h : AllOk l) (hx : x.ok = true) : AllOk (l ++ [x]) := fun y hy => by
  rcases List.mem_append.mp hy with hy | hy
  · exact h y hy
  · rw [List.mem_singleton.mp hy]; exact hx
theorem AllOk.lines : ∀ {bs : List Bytes} {l m : Log}, AllOk l → addLines l bs = .ok m → AllOk m
  | [], l, m, F, h => by cases h; exact F
  | b :: r, l, m, F, h => by
    rw [addLines_cons] at h
    cases hx : lineIn b with
    | none => rw [hx] at h; cases h
    | some x =>
      rw [hx] at h
      replace h : (if wrongOf l x = 0 then addLines (l ++ [x]) r else .error (l.length, wrongOf l x)) = .ok m := h
      split at h
      · exact AllOk.lines (F.add (lineIn_some.mp hx).1) h
      · cases h
theorem moments_mem : ∀ {l : Log} {o : Option Pt} {m : Mom}, m ∈ momentsFrom o l → .at_ m.2 ∈ l ∧ (.wind m.1 ∈ l ∨ o = some m.1)
  | [], o, m, h => by cases h
  | .wind w :: r, o, m, h => by
    obtain ⟨h1, h2⟩ := moments_mem (l := r) (o := some w) (m := m) h
    refine ⟨List.mem_cons_of_mem _ h1, .inl ?_⟩
    rcases h2 with h2 | h2
    · exact List.mem_cons_of_mem _ h2
    · rw [Option.some.inj h2]; exact List.mem_cons_self
  | .boat _ :: r, o, m, h => by
    obtain ⟨h1, h2⟩ := moments_mem (l := r) (o := o) (m := m) h
    exact ⟨List.mem_cons_of_mem _ h1, h2.imp (List.mem_cons_of_mem _) id⟩
  | .at_ hs :: r, some w, m, h => by
    rcases List.mem_cons.mp (show m ∈ (w, hs) :: momentsFrom (some w) r from h) with rfl | h
    · exact ⟨List.mem_cons_self, .inr rfl⟩
    · obtain ⟨h1, h2⟩ := moments_mem (l := r) (o := some w) (m := m) h
      exact ⟨List.mem_cons_of_mem _ h1, h2.imp (List.mem_cons_of_mem _) id⟩
  | .at_ hs :: r, none, m, h => by
    obtain ⟨h1, h2⟩ := moments_mem (l := r) (o := none) (m := m) h
    exact ⟨List.mem_cons_of_mem _ h1, h2.imp (List.mem_cons_of_mem _) id⟩
theorem moment_ok {l : Log} (A : AllOk l) {m : Mom} (h : m ∈ moments l) : (∀ x ∈ m.2, x.bow.ok = true ∧ x.stern.ok = true) ∧ m.1.ok = true := by
  obtain ⟨h1, h2⟩ := moments_mem h
  have a1 := A _ h1
  replace a1 : (decide (1 ≤ m.2.length) && (decide (m.2.length ≤ 64) && m.2.all fun (h : Hull) => h.bow.ok && h.stern.ok)) = true := a1
  rw [Bool.and_eq_true, Bool.and_eq_true] at a1
  refine ⟨fun x hx => ?_, ?_⟩
  · have := List.all_eq_true.mp a1.2.2 x hx
    rw [Bool.and_eq_true] at this
    exact this
  · rcases h2 with h2 | h2
    · exact A _ h2
    · cases h2
theorem tacksOf_snoc {l : Log} {ms : List Mom} {m : Mom} (h : moments l = ms ++ [m]) : tacksOf l = tacksAll (List.replicate (boats l).length true) ms ++ [tacksWith ((tacksAll (List.replicate (boats l).length true) ms).getLastD (List.replicate (boats l).length true)) m] := by
  unfold tacksOf
  rw [h, tacksAll_snoc]
theorem tacksAll_each {n : Nat} : ∀ {ms : List Mom} {b : List Bool}, (∀ m ∈ ms, m.2.length = n) → b.length = n → ∀ t ∈ tacksAll b ms, t.length = n
  | [], b, _, _ => fun t ht => by cases ht
  | m :: r, b, he, hb => fun t ht => by
    have hm := he m List.mem_cons_self
    have hl : (tacksWith b m).length = n := by rw [tacksWith_length (by rw [hm, hb]), hb]
    rcases List.mem_cons.mp (show t ∈ tacksWith b m :: tacksAll (tacksWith b m) r from ht) with rfl | ht
    · exact hl
    · exact tacksAll_each (fun m' hm' => he m' (List.mem_cons_of_mem _ hm')) hl t ht
theorem snoc_of {α : Type} {l : List α} (h : l ≠ []) : ∃ i x, l = i ++ [x] ∧ l.getLast? = some x := by
  refine ⟨l.dropLast, l.getLast h, (List.dropLast_concat_getLast h).symm, List.getLast?_eq_some_getLast h⟩
theorem ok_small {p : Pt} (h : p.ok = true) : -1048576 ≤ p.x ∧ p.x ≤ 1048576 ∧ -1048576 ≤ p.y ∧ p.y ≤ 1048576 := by
  unfold Pt.ok FAR at h
  rw [Bool.and_eq_true, decide_eq_true_iff, decide_eq_true_iff] at h
  omega
theorem heading_zero (h : Hull) : h.heading = ⟨0, 0⟩ ↔ h.bow = h.stern := by
  unfold Hull.heading Pt.sub
  constructor
  · intro e
    have e1 := congrArg Pt.x e
    have e2 := congrArg Pt.y e
    replace e1 : h.bow.x - h.stern.x = 0 := e1
    replace e2 : h.bow.y - h.stern.y = 0 := e2
    cases hb : h.bow with
    | mk a b =>
      cases hs : h.stern with
      | mk c d =>
        rw [hb, hs] at e1 e2
        replace e1 : a - c = 0 := e1
        replace e2 : b - d = 0 := e2
        rw [show a = c by omega, show b = d by omega]
  · intro e
    rw [e]
    congr 1 <;> omega
theorem addLines_err : ∀ {bs : List Bytes} {l : Log} {e : Nat × Nat}, addLines l bs = .error e → 0 < e.2
  | [], l, e, h => by cases h
  | b :: r, l, e, h => by
    rw [addLines_cons] at h
    cases hx : lineIn b with
    | none => rw [hx] at h; cases h; exact Nat.one_pos
    | some x =>
      rw [hx] at h
      replace h : (if wrongOf l x = 0 then addLines (l ++ [x]) r else .error (l.length, wrongOf l x)) = .error e := h
      split at h
      · exact addLines_err h
      · rename_i hn
        cases h
        exact Nat.pos_of_ne_zero hn
theorem write_err {l : Log} {t : Bytes} {e : Nat × Nat} (h : write l t = .error e) : 0 < e.2 := by
  unfold write at h
  cases ha : addLines l (linesOf t) with
  | error e' => rw [ha] at h; cases h; exact addLines_err ha
  | ok k =>
    rw [ha] at h
    replace h : (if lastOf t = [] then (Except.ok k : Except (Nat × Nat) Log) else .error (k.length, 1)) = .error e := h
    split at h
    · cases h
    · cases h; exact Nat.one_pos
theorem write_fit {l m : Log} {t : Bytes} (F : Fit l) (A : AllOk l) (h : write l t = .ok m) : Fit m ∧ AllOk m := by
  unfold write at h
  cases ha : addLines l (linesOf t) with
  | error e => rw [ha] at h; cases h
  | ok k =>
    rw [ha] at h
    replace h : (if lastOf t = [] then (Except.ok k : Except (Nat × Nat) Log) else .error (k.length, 1)) = .ok m := h
    split at h
    · cases h
      exact ⟨F.lines ha, A.lines ha⟩
    · cases h
end Bl
end
section
namespace Bl
open Rg
theorem firstFrom_ge {m k : Nat} {p : Nat → Bool} (h : k ≤ m) : firstFrom m k p = none := by
  unfold firstFrom
  rw [show k - m = 0 by omega]
  rfl
theorem firstFrom_step {m k : Nat} {p : Nat → Bool} (h : m < k) : firstFrom m k p = if p m = true then some m else firstFrom (m + 1) k p := by
  unfold firstFrom
  obtain ⟨d, hd⟩ : ∃ d, k - m = d + 1 := ⟨k - m - 1, by omega⟩
  rw [hd, List.range_succ_eq_map, List.map_cons, List.find?_cons, show k - (m + 1) = d by omega]
  show (match p (m + 0) with | true => some (m + 0) | false => _) = _
  rw [Nat.add_zero, List.map_map]
  have e : ((fun (i : Nat) => m + i) ∘ Nat.succ) = fun (i : Nat) => m + 1 + i := by
    funext i
    show m + (i + 1) = m + 1 + i
    omega
  rw [e]
  cases p m <;> rfl
theorem firstFrom_skip {m k : Nat} {p : Nat → Bool} : ∀ (d : Nat), m + d ≤ k → (∀ j, m ≤ j → j < m + d → p j = false) → firstFrom m k p = firstFrom (m + d) k p
  | 0, _, _ => rfl
  | d + 1, h, hp => by
    rw [firstFrom_skip d (by omega) (fun j a b => hp j a (by omega)), firstFrom_step (by omega), hp (m + d) (by omega) (by omega), if_neg (by decide)]
    rfl
theorem firstFrom_here {m j k : Nat} {p : Nat → Bool} (h1 : m ≤ j) (h2 : j < k) (hp : ∀ i, m ≤ i → i < j → p i = false) (hj : p j = true) : firstFrom m k p = some j := by
  obtain ⟨d, rfl⟩ : ∃ d, j = m + d := ⟨j - m, by omega⟩
  rw [firstFrom_skip d (by omega) hp, firstFrom_step h2, if_pos hj]
theorem firstFrom_none {m k : Nat} {p : Nat → Bool} (hp : ∀ i, m ≤ i → i < k → p i = false) : firstFrom m k p = none := by
  by_cases h : m ≤ k
  · obtain ⟨d, rfl⟩ : ∃ d, k = m + d := ⟨k - m, by omega⟩
    rw [firstFrom_skip d (Nat.le_refl _) hp, firstFrom_ge (Nat.le_refl _)]
  · exact firstFrom_ge (by omega)
theorem dot_self_nonneg (d : Pt) : 0 ≤ dot d d := by
  unfold dot
  have h1 : 0 ≤ d.x * d.x := by
    rcases Int.le_total 0 d.x with h | h
    · exact Int.mul_nonneg h h
    · exact Int.mul_nonneg_of_nonpos_of_nonpos h h
  have h2 : 0 ≤ d.y * d.y := by
    rcases Int.le_total 0 d.y with h | h
    · exact Int.mul_nonneg h h
    · exact Int.mul_nonneg_of_nonpos_of_nonpos h h
  omega
theorem sq_nonneg (z : Int) : 0 ≤ z * z := by
  rcases Int.le_total 0 z with h | h
  · exact Int.mul_nonneg h h
  · exact Int.mul_nonneg_of_nonpos_of_nonpos h h
theorem lowest_le {n k : Nat} {M : Int} (hk : 0 < k) : ((n / Nat.gcd n k : Nat) : Int) ≤ ((k / Nat.gcd n k : Nat) : Int) * M ↔ (n : Int) ≤ (k : Int) * M := by
  have hg : 0 < Nat.gcd n k := Nat.gcd_pos_of_pos_right n hk
  obtain ⟨a, ha⟩ := Nat.gcd_dvd_left n k
  obtain ⟨b, hb⟩ := Nat.gcd_dvd_right n k
  have e1 : n / Nat.gcd n k = a := by
    conv => lhs; lhs; rw [ha]
    exact Nat.mul_div_cancel_left a hg
  have e2 : k / Nat.gcd n k = b := by
    conv => lhs; lhs; rw [hb]
    exact Nat.mul_div_cancel_left b hg
  rw [e1, e2]
  generalize hG : Nat.gcd n k = g at ha hb hg
  rw [ha, hb, Int.natCast_mul, Int.natCast_mul, Int.mul_assoc]
  have hg' : (0 : Int) < (g : Int) := by omega
  constructor
  · intro h
    exact Int.mul_le_mul_of_nonneg_left h (by omega)
  · intro h
    exact Int.le_of_mul_le_mul_left h hg'
theorem inZone_iff (h : Hull) (c : Pt) (k : Nat) : inZone h c k = true ↔
    (let d := h.stern.sub h.bow
     let K := dot d d
     let r := dot d (c.sub h.bow)
     if r ≤ 0 then dot (c.sub h.bow) (c.sub h.bow) ≤ ((k * k : Nat) : Int) * K
     else if K ≤ r then dot (c.sub h.stern) (c.sub h.stern) ≤ ((k * k : Nat) : Int) * K
     else leftOf h.bow h.stern c * leftOf h.bow h.stern c ≤ K * (((k * k : Nat) : Int) * K)) := by
  have hd : dot h.heading h.heading = dot (h.stern.sub h.bow) (h.stern.sub h.bow) := by
    unfold Hull.heading dot Pt.sub
    show (h.bow.x - h.stern.x) * (h.bow.x - h.stern.x) + (h.bow.y - h.stern.y) * (h.bow.y - h.stern.y) = (h.stern.x - h.bow.x) * (h.stern.x - h.bow.x) + (h.stern.y - h.bow.y) * (h.stern.y - h.bow.y)
    rw [show h.bow.x - h.stern.x = -(h.stern.x - h.bow.x) by omega, show h.bow.y - h.stern.y = -(h.stern.y - h.bow.y) by omega, Int.neg_mul_neg, Int.neg_mul_neg]
  unfold inZone
  show decide (((near h.bow h.stern c).1 : Int) ≤ ((near h.bow h.stern c).2 : Int) * (((k * k : Nat) : Int) * dot h.heading h.heading)) = true ↔ _
  rw [decide_eq_true_iff, hd]
  unfold near
  show ((if dot (h.stern.sub h.bow) (c.sub h.bow) ≤ 0 then _ else _ : Nat × Nat).1 : Int) ≤ _ ↔ _
  by_cases h1 : dot (h.stern.sub h.bow) (c.sub h.bow) ≤ 0
  · simp only [h1, if_true]
    rw [Int.toNat_of_nonneg (dot_self_nonneg _)]
    show _ ≤ (1 : Int) * _ ↔ _
    rw [Int.one_mul]
  · simp only [h1, if_false]
    by_cases h2 : dot (h.stern.sub h.bow) (h.stern.sub h.bow) ≤ dot (h.stern.sub h.bow) (c.sub h.bow)
    · simp only [h2, if_true]
      rw [Int.toNat_of_nonneg (dot_self_nonneg _)]
      show _ ≤ (1 : Int) * _ ↔ _
      rw [Int.one_mul]
    · simp only [h2, if_false]
      have hK : 0 < (dot (h.stern.sub h.bow) (h.stern.sub h.bow)).toNat := by omega
      rw [lowest_le hK, Int.toNat_of_nonneg (sq_nonneg _), Int.toNat_of_nonneg (dot_self_nonneg _)]
end Bl
end
section
namespace Bl
open PyWqatcu
theorem whole_id (c : List (List Int)) : whole c = c := by
  unfold whole
  split <;> rfl
theorem whole_map (cs : List (List (List Int))) : cs.map whole = cs := by
  rw [show whole = id from funext whole_id, List.map_id]
def argc (p : Int) : Nat := if p = 2 then 0 else if p = 3 then 0 else if p = 4 then 1 else if p = 5 then 2 else if p = 6 then 2 else if p = 7 then 2 else if p = 8 then 3 else if p = 9 then 3 else if p = 10 then 5 else if p = 11 then 6 else 3
theorem shape_some {p : Int} {n k : Nat} (h : shape p = some (n, k)) : ((p = 0 ∨ p = 1) ∧ n = 0 ∧ k = 1) ∨ (2 ≤ p ∧ p ≤ 12 ∧ n = argc p ∧ k = 0) := by
  unfold shape at h
  by_cases h0 : p = 0
  · subst h0; cases h; exact .inl ⟨.inl rfl, rfl, rfl⟩
  rw [if_neg h0] at h
  by_cases h1 : p = 1
  · subst h1; cases h; exact .inl ⟨.inr rfl, rfl, rfl⟩
  rw [if_neg h1] at h
  right
  by_cases h2 : p = 2
  · subst h2; cases h; exact ⟨by decide, by decide, rfl, rfl⟩
  rw [if_neg h2] at h
  by_cases h3 : p = 3
  · subst h3; cases h; exact ⟨by decide, by decide, rfl, rfl⟩
  rw [if_neg h3] at h
  by_cases h4 : p = 4
  · subst h4; cases h; exact ⟨by decide, by decide, rfl, rfl⟩
  rw [if_neg h4] at h
  by_cases h5 : p = 5
  · subst h5; cases h; exact ⟨by decide, by decide, rfl, rfl⟩
  rw [if_neg h5] at h
  by_cases h6 : p = 6
  · subst h6; cases h; exact ⟨by decide, by decide, rfl, rfl⟩
  rw [if_neg h6] at h
  by_cases h7 : p = 7
  · subst h7; cases h; exact ⟨by decide, by decide, rfl, rfl⟩
  rw [if_neg h7] at h
  by_cases h8 : p = 8
  · subst h8; cases h; exact ⟨by decide, by decide, rfl, rfl⟩
  rw [if_neg h8] at h
  by_cases h9 : p = 9
  · subst h9; cases h; exact ⟨by decide, by decide, rfl, rfl⟩
  rw [if_neg h9] at h
  by_cases h10 : p = 10
  · subst h10; cases h; exact ⟨by decide, by decide, rfl, rfl⟩
  rw [if_neg h10] at h
  by_cases h11 : p = 11
  · subst h11; cases h; exact ⟨by decide, by decide, rfl, rfl⟩
  rw [if_neg h11] at h
  by_cases h12 : p = 12
  · subst h12; cases h; exact ⟨by decide, by decide, rfl, rfl⟩
  rw [if_neg h12] at h
  cases h
theorem call_some {p : Int} {r : List Int} {c : List (List Int)} {t : List Int} (h : PyFlat.call shape (p :: r) = some (c, t)) :
    ((p = 0 ∨ p = 1) ∧ ∃ n r', r = n :: r' ∧ 0 ≤ n ∧ n.toNat ≤ r'.length ∧ c = [[p], r'.take n.toNat] ∧ t = r'.drop n.toNat) ∨
    ((2 ≤ p ∧ p ≤ 12) ∧ argc p ≤ r.length ∧ c = [p :: r.take (argc p)] ∧ t = r.drop (argc p)) := by
  replace h : (match shape p with | none => none | some (n, k) => if r.length < n then none else match PyFlat.rows k (r.drop n) with | none => none | some (xs, t) => some ((p :: r.take n) :: xs, t)) = some (c, t) := h
  cases hs : shape p with
  | none => rw [hs] at h; cases h
  | some nk =>
    obtain ⟨n, k⟩ := nk
    rw [hs] at h
    replace h : (if r.length < n then none else match PyFlat.rows k (r.drop n) with | none => none | some (xs, t) => some ((p :: r.take n) :: xs, t)) = some (c, t) := h
    split at h
    · cases h
    · rename_i hl
      rcases shape_some hs with ⟨hp, rfl, rfl⟩ | ⟨h2, h12, rfl, rfl⟩
      · left
        refine ⟨hp, ?_⟩
        rw [List.drop_zero] at h
        cases r with
        | nil => cases h
        | cons m r' =>
          by_cases hm : 0 ≤ m ∧ m.toNat ≤ r'.length
          · have e : PyFlat.rows 1 (m :: r') = some ([r'.take m.toNat], r'.drop m.toNat) := by
              show (match (if 0 ≤ m ∧ m.toNat ≤ r'.length then some (r'.take m.toNat, r'.drop m.toNat) else none) with | none => none | some (x, s) => match PyFlat.rows 0 s with | none => none | some (xs, t) => some (x :: xs, t)) = _
              rw [if_pos hm]
              rfl
            rw [e] at h
            cases h
            exact ⟨m, r', rfl, hm.1, hm.2, rfl, rfl⟩
          · have e : PyFlat.rows 1 (m :: r') = none := by
              show (match (if 0 ≤ m ∧ m.toNat ≤ r'.length then some (r'.take m.toNat, r'.drop m.toNat) else none) with | none => none | some (x, s) => match PyFlat.rows 0 s with | none => none | some (xs, t) => some (x :: xs, t)) = _
              rw [if_neg hm]
            rw [e] at h
            cases h
      · right
        cases h
        exact ⟨⟨h2, h12⟩, by omega, rfl, rfl⟩
theorem calls_cons {f : Nat} {p : Int} {r : List Int} {cs : List (List (List Int))} (h : PyFlat.calls shape f (p :: r) = some cs) : ∃ f' c t cs', PyFlat.call shape (p :: r) = some (c, t) ∧ PyFlat.calls shape f' t = some cs' ∧ cs = c :: cs' := by
  cases f with
  | zero => cases h
  | succ f =>
    unfold PyFlat.calls at h
    cases hc : PyFlat.call shape (p :: r) with
    | none => rw [hc] at h; cases h
    | some ct =>
      obtain ⟨c, t⟩ := ct
      rw [hc] at h
      replace h : (match PyFlat.calls shape f t with | none => none | some cs => some (c :: cs)) = some cs := h
      cases hr : PyFlat.calls shape f t with
      | none => rw [hr] at h; cases h
      | some cs' =>
        rw [hr] at h
        cases h
        exact ⟨f, c, t, cs', rfl, hr, rfl⟩
theorem calls_nil {f : Nat} {cs : List (List (List Int))} (h : PyFlat.calls shape f [] = some cs) : cs = [] := by
  cases f <;> (cases h; rfl)
structure Left (k : Nat) (r : List Int) (cs : List (List (List Int))) : Prop where
  dec : ∃ f, PyFlat.calls shape f r = some cs
  ask : cs.all WqatcuNeutral.asked1 = true
  few : cs.length ≤ k
theorem asked_left {ns : List Int} (h : answers_asked ns = true) : ∃ cs, Left 300 ns cs ∧ answers ns = PyFlat.told (PyFlat.played WqatcuNeutral.step WqatcuNeutral.start cs) := by
  unfold answers_asked at h
  cases hc : calls ns with
  | none => rw [hc] at h; cases h
  | some cs =>
    rw [hc] at h
    replace h : (PyFlat.atMost 300 cs && WqatcuNeutral.asked cs) = true := h
    rw [Bool.and_eq_true] at h
    unfold WqatcuNeutral.asked PyFlat.atMost at h
    rw [Bool.and_eq_true, Bool.and_eq_true, Bool.and_eq_true, decide_eq_true_iff] at h
    refine ⟨cs, ⟨?_, h.2.1.1.1, h.1⟩, ?_⟩
    · unfold calls at hc
      cases hq : PyFlat.calls shape ns.length ns with
      | none => rw [hq] at hc; cases hc
      | some ds =>
        rw [hq] at hc
        replace hc : some (ds.map whole) = some cs := hc
        rw [whole_map] at hc
        cases hc
        exact ⟨_, hq⟩
    · unfold answers
      rw [hc]
theorem Left.nil {k : Nat} {cs : List (List (List Int))} (L : Left k [] cs) : cs = [] := by
  obtain ⟨f, h⟩ := L.dec
  exact calls_nil h
theorem Left.cons {k : Nat} {p : Int} {r : List Int} {cs : List (List (List Int))} (L : Left k (p :: r) cs) : ∃ k' c t cs', k = k' + 1 ∧ cs = c :: cs' ∧ WqatcuNeutral.asked1 c = true ∧ Left k' t cs' ∧ PyFlat.call shape (p :: r) = some (c, t) := by
  obtain ⟨f, h⟩ := L.dec
  obtain ⟨f', c, t, cs', h1, h2, rfl⟩ := calls_cons h
  have ha := L.ask
  rw [List.all_cons, Bool.and_eq_true] at ha
  have hf := L.few
  rw [List.length_cons] at hf
  obtain ⟨k', rfl⟩ : ∃ k', k = k' + 1 := ⟨k - 1, by omega⟩
  exact ⟨k', c, t, cs', rfl, rfl, ha.1, ⟨⟨f', h2⟩, ha.2, by omega⟩, h1⟩
end Bl
end
section
set_option maxHeartbeats 2000000
namespace Bl
open PySem PySem.Spec PyProof.Rows L2
section
variable (P : Program) (w : World) (K : PySem.W.Frag) (mg : Str → Option Value) (base : Heap)
def Ok (k : Nat) (x : Str) (ps : List Str) (sp : Sp) : Prop := ∃ (f : Addr) (fd : FuncData), mg x = some (.ref f) ∧ PySem.W.keepIn K (.ref f) = true ∧ Binds K fd ps [] ∧ FnOk P w K mg base CX0 k f fd ps sp
def OkM (C : Addr) (k : Nat) (m : Str) (ps : List Str) (sp : Sp) : Prop := ∃ (f : Addr) (fd : FuncData), Meth K C m f ∧ Binds K fd ps [] ∧ FnOk P w K mg base CX0 k f fd ps sp
def OkC (C : Addr) (k : Nat) (x : Str) (ps : List Str) (sp : Sp) : Prop := mg x = some (.ref C) ∧ ∃ (f : Addr) (fd : FuncData), Mk K C f ∧ Binds K fd ps [] ∧ FnOk P w K mg base CX0 k f fd ps sp
end
def FunG (K : PySem.W.Frag) (mg : Str → Option Value) (x : Str) (st : Stmt) (ps : List Str) : Prop := ∃ (f : Addr) (fd : FuncData), mg x = some (.ref f) ∧ Fun K x x st f fd ∧ Binds K fd ps []
def FunM (K : PySem.W.Frag) (C : Addr) (m qual : Str) (st : Stmt) (ps : List Str) : Prop := ∃ (f : Addr) (fd : FuncData), Meth K C m f ∧ Fun K m qual st f fd ∧ Binds K fd ps []
def FunC (K : PySem.W.Frag) (mg : Str → Option Value) (C : Addr) (x qual : Str) (st : Stmt) (ps : List Str) : Prop := mg x = some (.ref C) ∧ ∃ (f : Addr) (fd : FuncData), Mk K C f ∧ Fun K "__init__" qual st f fd ∧ Binds K fd ps []
section
variable {P : Program} {w : World} {K : PySem.W.Frag} {mg : Str → Option Value} {base : Heap}
theorem FunG.ok {x : Str} {st : Stmt} {N ps : List Str} {k : Nat} {sp : Sp} (F : FunG K mg x st ps) (S : FnScope N ps (defScope st)) (len : ∀ vs H Q E, sp vs H Q E → vs.length = ps.length)
    (hbody : ∀ (f : Addr) (cdv : Value) (A : Around) (outer : List Env) (s : Shared) (H : Hp) (vs : List V) (Q : VK) (E : XK), Room k (A.deeper (envOfC x (defScope st) s.heap.objs.size f cdv)) → sp vs H Q E →
      ∃ t, PSs (cxOf CX0 P w K mg base N x (defScope st) f cdv A outer s H E).nox (defBody st) t ∧ t { nx := fun _ H' => Q .non H', rt := Q } (start N vs) H) : Ok P w K mg base (k + 1) x ps sp := by
  obtain ⟨f, fd, h1, h2, h3⟩ := F
  exact ⟨f, fd, h1, h2.kp, h3, h2.ok S len (hbody f)⟩
theorem FunM.ok {C : Addr} {m qual : Str} {st : Stmt} {N ps : List Str} {k : Nat} {sp : Sp} (F : FunM K C m qual st ps) (S : FnScope N ps (defScope st)) (len : ∀ vs H Q E, sp vs H Q E → vs.length = ps.length)
    (hbody : ∀ (f : Addr) (cdv : Value) (A : Around) (outer : List Env) (s : Shared) (H : Hp) (vs : List V) (Q : VK) (E : XK), Room k (A.deeper (envOfC qual (defScope st) s.heap.objs.size f cdv)) → sp vs H Q E →
      ∃ t, PSs (cxOf CX0 P w K mg base N qual (defScope st) f cdv A outer s H E).nox (defBody st) t ∧ t { nx := fun _ H' => Q .non H', rt := Q } (start N vs) H) : OkM P w K mg base C (k + 1) m ps sp := by
  obtain ⟨f, fd, h1, h2, h3⟩ := F
  exact ⟨f, fd, h1, h3, h2.ok S len (hbody f)⟩
theorem FunC.ok {C : Addr} {x qual : Str} {st : Stmt} {N ps : List Str} {k : Nat} {sp : Sp} (F : FunC K mg C x qual st ps) (S : FnScope N ps (defScope st)) (len : ∀ vs H Q E, sp vs H Q E → vs.length = ps.length)
    (hbody : ∀ (f : Addr) (cdv : Value) (A : Around) (outer : List Env) (s : Shared) (H : Hp) (vs : List V) (Q : VK) (E : XK), Room k (A.deeper (envOfC qual (defScope st) s.heap.objs.size f cdv)) → sp vs H Q E →
      ∃ t, PSs (cxOf CX0 P w K mg base N qual (defScope st) f cdv A outer s H E).nox (defBody st) t ∧ t { nx := fun _ H' => Q .non H', rt := Q } (start N vs) H) : OkC P w K mg base C (k + 1) x ps sp := by
  obtain ⟨h0, f, fd, h1, h2, h3⟩ := F
  exact ⟨h0, f, fd, h1, h3, h2.ok S len (hbody f)⟩
end
section
variable {X : Cx} {k : Nat} {C : Addr} {x m : Str} {ps : List Str} {sp : Sp} {p pos apos : Pos} {e o : Expr} {es : List Expr} {ta : TE} {t : TA}
theorem pe_fn (O : Ok X.prog X.w X.K X.mg X.base k x ps sp) (hr : Room k X.A) (ha : PA X (e :: es) t) (hg : Gl X x := by rfl) (hdb : (x == ("__debug__" : Str)) = false := by decide)
    (he : starEach (e :: es) X.env = (false, eval e X.env) :: starEach es X.env := by rfl) (hpl : (backTo pos (starEach es X.env)).any (·.1) = false := by rfl) : PE X (.Call (.Name x p) (e :: es) [] pos) (tCall sp [] E0 t) := by
  obtain ⟨f, fd, h1, h2, h3, h4⟩ := O
  exact pe_call h4 hr hg h1 h2 h3 .nil pass0 ha hdb he hpl
theorem pe_mt {pl : Sem Bool} (c : Cls X.K C) (O : OkM X.prog X.w X.K X.mg X.base C k m ps sp) (hr : Room k X.A) (ho : PE X o ta) (ha : PA X (e :: es) t)
    (hst : starEach (e :: es) X.env = (false, eval e X.env) :: starEach es X.env := by rfl) (hpl : (backTo pos (starEach es X.env)).any (·.1) = false := by rfl)
    (ht : eval (.Call (.Attribute o m apos) (e :: es) [] pos) X.env = (do
      let ov ← eval o X.env
      standAt apos.atName
      let (f, first) ← holding [ov] (getMethod ov m pl)
      callWith pos f first (backTo pos (starEach (e :: es) X.env)) (backToKw pos (keywordEach [] X.env))) := by rfl) : PE X (.Call (.Attribute o m apos) (e :: es) [] pos) (tMeth C m sp [] E0 ta t) := by
  obtain ⟨f, fd, h1, h3, h4⟩ := O
  exact pe_meth ho c h1 h4 hr h3 .nil pass0 ha hst hpl ht
theorem pe_mt0 {pl : Sem Bool} (c : Cls X.K C) (O : OkM X.prog X.w X.K X.mg X.base C k m ps sp) (hr : Room k X.A) (ho : PE X o ta)
    (ht : eval (.Call (.Attribute o m apos) [] [] pos) X.env = (do
      let ov ← eval o X.env
      standAt apos.atName
      let (f, first) ← holding [ov] (getMethod ov m pl)
      callWith pos f first (backTo pos (starEach [] X.env)) (backToKw pos (keywordEach [] X.env))) := by rfl) : PE X (.Call (.Attribute o m apos) [] [] pos) (tMeth C m sp [] E0 ta tNil) := by
  obtain ⟨f, fd, h1, h3, h4⟩ := O
  exact pe_meth0 ho c h1 h4 hr h3 .nil pass0 ht
theorem pe_mk (O : OkC X.prog X.w X.K X.mg X.base C k x ps sp) (hr : Room (k + 1) X.A) (ha : PA X (e :: es) t) (hg : Gl X x := by rfl) (hdb : (x == ("__debug__" : Str)) = false := by decide)
    (he : starEach (e :: es) X.env = (false, eval e X.env) :: starEach es X.env := by rfl) (hpl : (backTo pos (starEach es X.env)).any (·.1) = false := by rfl) : PE X (.Call (.Name x p) (e :: es) [] pos) (tMake C sp [] E0 t) := by
  obtain ⟨h0, f, fd, h1, h3, h4⟩ := O
  exact pe_make h1 h4 hr hg h0 h3 .nil pass0 ha hdb he hpl
theorem pe_mk0 (O : OkC X.prog X.w X.K X.mg X.base C k x ps sp) (hr : Room (k + 1) X.A) (hg : Gl X x := by rfl) (hdb : (x == ("__debug__" : Str)) = false := by decide) : PE X (.Call (.Name x p) [] [] pos) (tMake C sp [] E0 tNil) := by
  obtain ⟨h0, f, fd, h1, h3, h4⟩ := O
  exact pe_make0 h1 h4 hr hg h0 h3 .nil pass0 hdb
def GI (mg : Str → Option Value) (x : Str) (i : Int) : Prop := ∃ t, mg x = some (.int i t)
def GS (mg : Str → Option Value) (x z : Str) : Prop := ∃ t, mg x = some (.str z t)
theorem pe_gi {i : Int} (h : GI X.mg x i) (hg : Gl X x := by rfl) (hd : (x == ("__debug__" : Str)) = false := by decide) : PE X (.Name x pos) (tC (.int i)) := by
  obtain ⟨t, h⟩ := h
  exact pe_glob hg h ⟨t, rfl⟩ hd
theorem pe_gs {z : Str} (h : GS X.mg x z) (hg : Gl X x := by rfl) (hd : (x == ("__debug__" : Str)) = false := by decide) : PE X (.Name x pos) (tC (.str z)) := by
  obtain ⟨t, h⟩ := h
  exact pe_glob hg h ⟨t, rfl⟩ hd
theorem pe_len (hm : X.mg "len" = none) (ha : PE X e ta) (hg : Gl X "len" := by rfl) (hs : starEach [e] X.env = (false, eval e X.env) :: starEach [] X.env := by rfl) (hpl : (backTo pos (starEach [] X.env)).any (·.1) = false := by rfl) :
    PE X (.Call (.Name "len" p) [e] [] pos) (tCB (fun xs H Q => ∃ p ys, xs = [.ref p] ∧ (SqL X.K H p ys ∨ SqT X.K H p ys) ∧ Q (.int ys.length) H) (tCons ta tNil)) :=
  pe_callB call_len_seq hg hm PySem.boot_len (pa_cons ha pa_nil hs) (he := hs) (hpl := hpl)
theorem pe_app {te : TE} (ho : PE X o ta) (he : PE X e te) (hbase : attributeBase o "append" X.env (eval o X.env) = eval o X.env := by rfl)
    (hs : starEach [e] X.env = (false, eval e X.env) :: starEach [] X.env := by rfl)
    (hfew : ((backTo pos (starEach [e] X.env)).all (fun x => !x.1) && (backToKw pos (keywordEach [] X.env)).all (fun x => x.1.isSome)
      && decide (([e] : List Expr).length + ([] : List Keyword).length + (if ([] : List Keyword).isEmpty then 0 else 1) < 30)) = true := by rfl)
    (hline : (apos.endLine == pos.line) = true := by rfl) (hplain : (backTo pos (starEach [] X.env)).any (·.1) = false := by rfl) :
    PE X (.Call (.Attribute o "append" apos) [e] [] pos) (tBM X.K "list" rAppend ta (tCons te tNil)) :=
  pe_bm PySem.F.plainAttrs_list PySem.F.slot_list_append PySem.F.type_list_append mt_append ho (pa_cons he pa_nil hs) hbase hfew hline hs hplain
theorem pe_ext {te : TE} (ho : PE X o ta) (he : PE X e te) (hbase : attributeBase o "extend" X.env (eval o X.env) = eval o X.env := by rfl)
    (hs : starEach [e] X.env = (false, eval e X.env) :: starEach [] X.env := by rfl)
    (hfew : ((backTo pos (starEach [e] X.env)).all (fun x => !x.1) && (backToKw pos (keywordEach [] X.env)).all (fun x => x.1.isSome)
      && decide (([e] : List Expr).length + ([] : List Keyword).length + (if ([] : List Keyword).isEmpty then 0 else 1) < 30)) = true := by rfl)
    (hline : (apos.endLine == pos.line) = true := by rfl) (hplain : (backTo pos (starEach [] X.env)).any (·.1) = false := by rfl) :
    PE X (.Call (.Attribute o "extend" apos) [e] [] pos) (tBM X.K "list" rExtend ta (tCons te tNil)) :=
  pe_bm PySem.F.plainAttrs_list PySem.F.slot_list_extend PySem.F.type_list_extend mt_extend ho (pa_cons he pa_nil hs) hbase hfew hline hs hplain
end
theorem pt_imp {X : Cx} {e : Expr} {t t' : TT} (h : PT X e t) (hi : ∀ (σ : L2.St) (H : Hp) (Q : Bool → Hp → Prop), t' σ H Q → t σ H Q) : PT X e t' := fun pins s σ H Q I q => h pins s σ H Q I (hi σ H Q q)
theorem ps_imp {X : Cx} {e : Stmt} {t t' : TS} (h : PS X e t) (hi : ∀ (D : Ends) (σ : L2.St) (H : Hp), t' D σ H → t D σ H) : PS X e t' := fun pins s σ H D I q => h pins s σ H D I (hi D σ H q)
theorem paired_mem {α β : Type} {R S : α → β → Prop} : ∀ {as : List α} {bs : List β}, Paired R as bs → (∀ a ∈ as, ∀ b, R a b → S a b) → Paired S as bs
  | _, _, .nil, _ => .nil
  | _, _, .cons r t, f => .cons (f _ List.mem_cons_self _ r) (paired_mem t fun a ha => f a (List.mem_cons_of_mem _ ha))
theorem paired_get {α β : Type} {R : α → β → Prop} : ∀ {as : List α} {bs : List β} {i : Nat} {b : β}, Paired R as bs → bs[i]? = some b → ∃ a, as[i]? = some a ∧ R a b
  | _, _, _, _, .nil, h => by simp at h
  | _, _, 0, _, .cons r t, h => by simp at h; subst h; exact ⟨_, rfl, r⟩
  | _, _, i + 1, b, .cons r t, h => by
    obtain ⟨a, h1, h2⟩ := paired_get (i := i) (b := b) t (by simpa using h)
    exact ⟨a, by simpa using h1, h2⟩
theorem paired_getL {α β : Type} {R : α → β → Prop} : ∀ {as : List α} {bs : List β} {i : Nat} {a : α}, Paired R as bs → as[i]? = some a → ∃ b, bs[i]? = some b ∧ R a b
  | _, _, _, _, .nil, h => by simp at h
  | _, _, 0, _, .cons r t, h => by simp at h; subst h; exact ⟨_, rfl, r⟩
  | _, _, i + 1, a, .cons r t, h => by
    obtain ⟨b, h1, h2⟩ := paired_getL (i := i) (a := a) t (by simpa using h)
    exact ⟨b, by simpa using h1, h2⟩
theorem paired_snoc_inv {α β : Type} {R : α → β → Prop} {as : List α} {bs : List β} {b : β} (h : Paired R as (bs ++ [b])) : ∃ as' a, as = as' ++ [a] ∧ Paired R as' bs ∧ R a b := by
  induction bs generalizing as with
  | nil =>
    cases h with
    | cons r t =>
      cases t
      exact ⟨[], _, rfl, .nil, r⟩
  | cons c bs ih =>
    cases h with
    | cons r t =>
      obtain ⟨as', a, rfl, h1, h2⟩ := ih t
      exact ⟨_ :: as', a, rfl, .cons r h1, h2⟩
theorem paired_drop {α β : Type} {R : α → β → Prop} : ∀ {as : List α} {bs : List β} (n : Nat), Paired R as bs → Paired R (as.drop n) (bs.drop n)
  | _, _, 0, h => h
  | _, _, _ + 1, .nil => .nil
  | _, _, n + 1, .cons _ t => paired_drop n t
theorem _root_.L2.Same.new {H : Hp} {p : Addr} {o : HO} (h : H p = none) : Same H (upd H p o) := fun b u e => by rw [upd_ne (ne_of_none e h)]; exact e
theorem _root_.L2.Same.upd {H H' : Hp} {p : Addr} {o : HO} (s : Same H H') (h : H p = none) : Same H (upd H' p o) := fun b u e => by rw [upd_ne (ne_of_none e h)]; exact s b u e
def New (B H : Hp) : Hp := fun b => match B b with | some _ => none | none => H b
theorem New.mk {B H : Hp} {b : Addr} {o : HO} (h : H b = some o) (n : B b = none) : New B H b = some o := by
  unfold New
  rw [n]
  exact h
theorem New.inv {B H : Hp} {b : Addr} {o : HO} (h : New B H b = some o) : B b = none ∧ H b = some o := by
  unfold New at h
  cases e : B b with
  | none => rw [e] at h; exact ⟨rfl, h⟩
  | some u => rw [e] at h; cases h
theorem New.sub {B H : Hp} : Same (New B H) H := fun _ _ h => (New.inv h).2
theorem New.same {B H H' : Hp} (s : Same H H') : Same (New B H) (New B H') := fun _ _ h => New.mk (s _ _ (New.inv h).2) (New.inv h).1
abbrev bV (c : UInt8) : V := .int (c.toNat : Int)
theorem bV_inj {a b : UInt8} : bV a = bV b ↔ a = b := by
  constructor
  · intro h
    have : (a.toNat : Int) = b.toNat := V.int.inj h
    exact UInt8.toNat_inj.mp (by omega)
  · intro h; rw [h]
def BytesAt (H : Hp) (b : Rg.Bytes) (a : Addr) : Prop := H a = some (.lst (b.map bV))
def IntsAt (H : Hp) (l : List Int) (a : Addr) : Prop := H a = some (.lst (l.map V.int))
def RefsAt {β : Type} (H : Hp) (R : β → Addr → Prop) (xs : List β) (a : Addr) : Prop := ∃ as : List Addr, H a = some (.lst (as.map V.ref)) ∧ Paired (fun a x => R x a) as xs
abbrev WordsAt (H : Hp) (ws : List Rg.Bytes) (a : Addr) : Prop := RefsAt H (BytesAt H) ws a
def PtAt (H : Hp) (p : Rg.Pt) (a : Addr) : Prop := H a = some (.tup [.int p.x, .int p.y])
def HullAt (H : Hp) (h : Rg.Hull) (a : Addr) : Prop := H a = some (.tup [.int h.bow.x, .int h.bow.y, .int h.stern.x, .int h.stern.y])
abbrev HullsAt (H : Hp) (hs : List Rg.Hull) (a : Addr) : Prop := RefsAt H (HullAt H) hs a
theorem BytesAt.same {H H' : Hp} {b : Rg.Bytes} {a : Addr} (s : Same H H') (h : BytesAt H b a) : BytesAt H' b a := s _ _ h
theorem PtAt.same {H H' : Hp} {b : Rg.Pt} {a : Addr} (s : Same H H') (h : PtAt H b a) : PtAt H' b a := s _ _ h
theorem HullAt.same {H H' : Hp} {b : Rg.Hull} {a : Addr} (s : Same H H') (h : HullAt H b a) : HullAt H' b a := s _ _ h
theorem RefsAt.same {β : Type} {H H' : Hp} {R R' : β → Addr → Prop} {xs : List β} {a : Addr} (s : Same H H') (f : ∀ x a, R x a → R' x a) (h : RefsAt H R xs a) : RefsAt H' R' xs a := by
  obtain ⟨as, h1, h2⟩ := h
  exact ⟨as, s _ _ h1, paired_mem h2 fun a _ b r => f b a r⟩
theorem WordsAt.same {H H' : Hp} {b : List Rg.Bytes} {a : Addr} (s : Same H H') (h : WordsAt H b a) : WordsAt H' b a := RefsAt.same s (fun _ _ => BytesAt.same s) h
theorem HullsAt.same {H H' : Hp} {b : List Rg.Hull} {a : Addr} (s : Same H H') (h : HullsAt H b a) : HullsAt H' b a := RefsAt.same s (fun _ _ => HullAt.same s) h
theorem line_lt {n : Nat} (h : n ≤ 10000000) : n < sizeLine := Nat.lt_of_le_of_lt h (by decide)
theorem line_le {n : Nat} (h : n ≤ 10000000) : n ≤ sizeLine := Nat.le_of_lt (line_lt h)
end Bl
end
section
namespace Bl
open PySem PySem.Spec PyProof.Rows L2
def top (i : Nat) : Stmt := PySem.Challenge.pw_boatlog_s01_answers.main.body.getD i (.Pass ⟨0, 0, 0, 0⟩)
abbrev s_minus : Stmt := top 1
abbrev s_plus : Stmt := top 2
abbrev s_cross : Stmt := top 3
abbrev s_dot : Stmt := top 4
abbrev s_square : Stmt := top 5
abbrev s_side : Stmt := top 7
abbrev s_goes_over : Stmt := top 8
abbrev s_when_over : Stmt := top 9
abbrev s_lowest : Stmt := top 10
abbrev s_meet : Stmt := top 11
abbrev s_reaches_meet : Stmt := top 12
abbrev s_is_near : Stmt := top 13
abbrev s_bow : Stmt := top 15
abbrev s_stern : Stmt := top 16
abbrev s_heading : Stmt := top 17
abbrev s_middle : Stmt := top 18
abbrev s_is_behind : Stmt := top 19
abbrev s_is_clear_astern : Stmt := top 20
abbrev s_is_to_leeward : Stmt := top 21
abbrev s_do_touch : Stmt := top 22
abbrev s_is_in_zone : Stmt := top 23
abbrev s_cut : Stmt := top 39
abbrev s_spelled : Stmt := top 40
abbrev s_is_digit : Stmt := top 41
abbrev s_is_name : Stmt := top 42
abbrev s_read_size : Stmt := top 43
abbrev s_read_number : Stmt := top 44
abbrev s_read_numbers : Stmt := top 45
abbrev s_read_boat : Stmt := top 46
abbrev s_read_wind : Stmt := top 47
abbrev s_read_at : Stmt := top 48
abbrev s_read_line : Stmt := top 49
abbrev s_turned_by_half : Stmt := top 55
abbrev s_tack_after : Stmt := top 56
abbrev s_points_into : Stmt := top 57
abbrev s_is_left : Stmt := top 58
abbrev s_passing : Stmt := top 59
abbrev s_rounds : Stmt := top 60
abbrev s_Moment_init : Stmt := inClass (top 70) 0
abbrev s_Moment_heads_into_wind : Stmt := inClass (top 70) 1
abbrev s_Moment_change_since : Stmt := inClass (top 70) 2
abbrev s_Log_init : Stmt := inClass (top 71) 0
abbrev s_Log_copied : Stmt := inClass (top 71) 1
abbrev s_Log_write : Stmt := inClass (top 71) 2
abbrev s_Log_add_line : Stmt := inClass (top 71) 3
abbrev s_Log_add_told : Stmt := inClass (top 71) 4
abbrev s_Log_add_boat : Stmt := inClass (top 71) 5
abbrev s_Log_add_wind : Stmt := inClass (top 71) 6
abbrev s_Log_add_moment : Stmt := inClass (top 71) 7
abbrev s_Log_hulls_clash : Stmt := inClass (top 71) 8
abbrev s_Log_tacks_with : Stmt := inClass (top 71) 9
abbrev s_is_too_far : Stmt := top 81
abbrev s_which : Stmt := top 82
abbrev s_Book_init : Stmt := inClass (top 83) 0
abbrev s_Book_take : Stmt := inClass (top 83) 1
abbrev s_Book_more : Stmt := inClass (top 83) 2
abbrev s_Book_hold_grown : Stmt := inClass (top 83) 3
abbrev s_Book_text : Stmt := inClass (top 83) 4
abbrev s_Book_sizes : Stmt := inClass (top 83) 5
abbrev s_Book_name : Stmt := inClass (top 83) 6
abbrev s_Book_boat : Stmt := inClass (top 83) 7
abbrev s_Book_tack : Stmt := inClass (top 83) 8
abbrev s_Book_next_change : Stmt := inClass (top 83) 9
abbrev s_Book_rounds_made : Stmt := inClass (top 83) 10
abbrev s_Book_pair : Stmt := inClass (top 83) 11
abbrev s_Book_zone : Stmt := inClass (top 83) 12
abbrev s_Book_over : Stmt := inClass (top 83) 13
abbrev s_Book_touch : Stmt := inClass (top 83) 14
abbrev s_Book_has_boat : Stmt := inClass (top 83) 15
abbrev s_Book_has_moment : Stmt := inClass (top 83) 16
abbrev s_answers : Stmt := top 98
abbrev s_has_row : Stmt := top 99
abbrev s_first_argument : Stmt := top 100
abbrev s_count_arguments : Stmt := top 101
abbrev s_answer_one : Stmt := top 102
abbrev s_answer_sailing : Stmt := top 103
structure Txt (mg : Str → Option Value) : Prop where
  c_LINE_FEED : GI mg "LINE_FEED" (10)
  c_BLANK : GI mg "BLANK" (32)
  c_MINUS : GI mg "MINUS" (45)
  c_DIGIT_0 : GI mg "DIGIT_0" (48)
  c_DIGIT_9 : GI mg "DIGIT_9" (57)
  c_LETTER_A : GI mg "LETTER_A" (97)
  c_LETTER_Z : GI mg "LETTER_Z" (122)
  c_LONGEST_NAME : GI mg "LONGEST_NAME" (12)
  c_FARTHEST : GI mg "FARTHEST" (1048576)
  c_HULL_NUMBERS : GI mg "HULL_NUMBERS" (4)
  c_MOST_NUMBERS : GI mg "MOST_NUMBERS" (256)
  c_BOAT_lines : GS mg "BOAT_lines" "boat"
  c_WIND : GS mg "WIND" "wind"
  c_AT : GS mg "AT" "at"
  c_STARBOARD : GI mg "STARBOARD" (1)
  c_PORT : GI mg "PORT" (2)
  c_TACKS : GI mg "TACKS" (1)
  c_GYBES : GI mg "GYBES" (2)
  c_NO_FAULT : GI mg "NO_FAULT" (0)
  c_NOT_FORMED : GI mg "NOT_FORMED" (1)
  c_TOO_MUCH : GI mg "TOO_MUCH" (2)
  c_CANNOT_STAND : GI mg "CANNOT_STAND" (3)
  c_CLASHES : GI mg "CLASHES" (4)
  c_MOST_BOATS : GI mg "MOST_BOATS" (64)
  c_MOST_MOMENTS : GI mg "MOST_MOMENTS" (4096)
  c_MOST_WINDS : GI mg "MOST_WINDS" (4096)
  c_DONE : GI mg "DONE" (0)
  c_TOO_LONG : GI mg "TOO_LONG" (-2)
  c_NONE_FOUND : GI mg "NONE_FOUND" (-3)
  c_NO_SUCH : GI mg "NO_SUCH" (-4)
  c_FAULTY : GI mg "FAULTY" (-6)
  c_WRONG : GI mg "WRONG" (-8)
  c_MOST_BYTES : GI mg "MOST_BYTES" (65536)
  c_WIDEST_ZONE : GI mg "WIDEST_ZONE" (64)
  c_TAKE : GI mg "TAKE" (0)
  c_MORE : GI mg "MORE" (1)
  c_TEXT : GI mg "TEXT" (2)
  c_SIZES : GI mg "SIZES" (3)
  c_NAME : GI mg "NAME" (4)
  c_BOAT_desk : GI mg "BOAT_desk" (5)
  c_TACK : GI mg "TACK" (6)
  c_NEXT : GI mg "NEXT" (7)
  c_ROUND : GI mg "ROUND" (8)
  c_PAIR : GI mg "PAIR" (9)
  c_ZONE : GI mg "ZONE" (10)
  c_OVER : GI mg "OVER" (11)
  b_abs : mg "abs" = none
  b_all : mg "all" = none
  b_len : mg "len" = none
  b_list : mg "list" = none
  b_max : mg "max" = none
  b_min : mg "min" = none
  b_ord : mg "ord" = none
  b_range : mg "range" = none
  b_sum : mg "sum" = none
  b_tuple : mg "tuple" = none
  b_zip : mg "zip" = none
end Bl
end
section
set_option maxHeartbeats 4000000
namespace Bl
open PySem PySem.Spec PySem.W
noncomputable abbrev pW : Program := PySem.Challenge.pw_boatlog_s01_answers
theorem primed : Nat.beq (List.length pW.main.body) 104 = true := by k_qdec
noncomputable abbrev pF : Program := PySem.W.Fast.tw5321638704918180723
theorem pF_eq : pW = pF := PySem.W.Fast.te5321638704918180723
def p0 : Pos := ⟨0, 0, 0, 0⟩
def envT (p : Program) : Env := { scope := p.main.scope, locals := mainNs, globals := mainNs, cells := [], code := .ref 13, frame := some 14 }
def cT (p : Program) : Code := .body (behindTheImports p) (envT p)
def bT : List Frame := [topFrame p0]
def sM : Str := ⟨#[60, 109, 111, 100, 117, 108, 101, 62]⟩
def sC : Str := ⟨#[47, 99, 108, 97, 105, 109, 47, 99, 117, 116, 46, 112, 121]⟩
def sN : Str := ⟨#[95, 95, 109, 97, 105, 110, 95, 95]⟩
noncomputable def bootL (P : Params) : List Obj := [boot_o_0 P, boot_o_1 P, boot_o_2 P, boot_o_3 P, boot_o_4 P, boot_o_5 P, boot_o_6 P, boot_o_7 P, boot_o_8 P, boot_o_9 P, boot_o_10 P,
  { cls := .type "tuple", data := .seq #[] }, { cls := .none, data := .fields #[] },
  { cls := .type "code", data := .fields #[.str sM 182, .str sM 183, .str sC 184, .int 1 0, .int 0 0, .int 0 0, .int 0 0, .int 0 0, .ref 11, .bool false, .int 181 0, .ref 12, .none, .none, .none, .none, .int 185 0, .int 1 0, .str sC 186] },
  { cls := .type "frame", slots := #[some (.ref 13), some (.ref 3), some (.ref 3), none, some (.str sN 164), none, some (.ref 0)] }]
def btOf (l : List Obj) : Nat → Nat → Nat → BT
  | 0, _, _ => .nil
  | f + 1, a, b => match l[b]? with
    | none => .nil
    | some o => .node o (btOf l f (2 * a) (a + b)) (btOf l f (2 * a) (2 * a + b))
noncomputable def sb (w : World) (os : OsState) : SharedT := ⟨btOf (bootL w.params) 20 1 0, 15, {}, #[], {}, 187, os⟩
def posE : Pos := ⟨462, 0, 473, 51⟩
end Bl
end
section
set_option maxHeartbeats 4000000
namespace Bl
open PySem PySem.Spec PySem.W L2
def topP (p : Program) (i : Nat) : Stmt := p.main.body.getD i (.Pass ⟨0, 0, 0, 0⟩)
def kF (x q : Str) (st : Stmt) (m : Str) (t c : Nat) : Obj := ⟨.type "function", none, .func (PySem.W.fnOf x q (defArgs st) (defBody st) (defScope st) .none .none .none (.str m t) none (.ref c) .none), #[]⟩
def fC : Str := "/claim/cut.py"
def kC (n q : Str) (t l a b c r : Nat) (v1 v2 v3 : Value) (u : Nat) : Obj := ⟨.type "code", none, .fields #[.str n t, .str q (t + 1), .str fC (t + 2), .int l 0, .int a 0, .int 0 0, .int b 0, .int c 0, .ref r, .bool true, .int 181 0, .ref (r + 1), .none, v1, v2, v3, .int u 0, .int l 0, .str fC (u + 1)], #[]⟩
def kL (n : Str) (c ns t u : Nat) : Obj := ⟨.type "type", none, .cls { name := n, bases := [.type "object"], mro := [.ref c, .type "object"], ns := ns, qualname := n }, #[none, none, some (.str n t), some (.str n u), some (.builtin "object.__new__"), some (.bool true)]⟩
def kE (P : Params) (n : Str) (t : Nat) (v : Value) : DictEntry := ⟨PyData.keyHash P n, .str n t, v⟩
def kI (k a : Nat) (t : Nat) : DictEntry := ⟨k, .int k t, .int a (t + 1)⟩
def kD (es : List DictEntry) (n : Nat) : Obj := ⟨.type "dict", none, .dict es.toArray n, #[]⟩
noncomputable def kGlob (P : Params) : Obj := kD [kE P "__name__" 165 (.str "boatlog.desk" 942), kE P "__doc__" 166 (.none), kE P "__package__" 167 (.none), kE P "__loader__" 168 (.builtin "__main__.__loader__#opaque"), kE P "__spec__" 169 (.none), kE P "__annotations__" 170 (.ref 6), kE P "__builtins__" 171 (.ref 4), kE P "__file__" 173 (.str "/claim/cut.py" 172), kE P "__cached__" 174 (.none), kE P "minus" 196 (.ref 21), kE P "plus" 204 (.ref 28), kE P "cross" 212 (.ref 35), kE P "dot" 220 (.ref 42), kE P "square" 227 (.ref 49), kE P "side" 238 (.ref 56), kE P "goes_over" 248 (.ref 63), kE P "when_over" 259 (.ref 70), kE P "lowest" 270 (.ref 77), kE P "meet" 280 (.ref 84), kE P "reaches_meet" 290 (.ref 91), kE P "is_near" 306 (.ref 98), kE P "bow" 315 (.ref 105), kE P "stern" 322 (.ref 112), kE P "heading" 329 (.ref 119), kE P "middle" 336 (.ref 126), kE P "is_behind" 344 (.ref 133), kE P "is_clear_astern" 352 (.ref 140), kE P "is_to_leeward" 361 (.ref 147), kE P "do_touch" 369 (.ref 154), kE P "is_in_zone" 378 (.ref 161), kE P "LINE_FEED" 382 (.int (10) 381), kE P "BLANK" 384 (.int (32) 383), kE P "MINUS" 386 (.int (45) 385), kE P "DIGIT_0" 388 (.int (48) 387), kE P "DIGIT_9" 390 (.int (57) 389), kE P "LETTER_A" 392 (.int (97) 391), kE P "LETTER_Z" 394 (.int (122) 393), kE P "LONGEST_NAME" 396 (.int (12) 395), kE P "FARTHEST" 398 (.int (1048576) 397), kE P "HULL_NUMBERS" 400 (.int (4) 399), kE P "MOST_NUMBERS" 402 (.int (256) 401), kE P "BOAT_lines" 404 (.str "boat" 403), kE P "WIND" 406 (.str "wind" 405), kE P "AT" 408 (.str "at" 407), kE P "cut" 419 (.ref 168), kE P "spelled" 425 (.ref 173), kE P "is_digit" 432 (.ref 180), kE P "is_name" 438 (.ref 185), kE P "read_size" 447 (.ref 192), kE P "read_number" 455 (.ref 199), kE P "read_numbers" 461 (.ref 204), kE P "read_boat" 468 (.ref 211), kE P "read_wind" 476 (.ref 218), kE P "read_at" 482 (.ref 223), kE P "read_line" 490 (.ref 230), kE P "STARBOARD" 494 (.int (1) 493), kE P "PORT" 496 (.int (2) 495), kE P "TACKS" 498 (.int (1) 497), kE P "GYBES" 500 (.int (2) 499), kE P "turned_by_half" 508 (.ref 237), kE P "tack_after" 518 (.ref 244), kE P "points_into" 526 (.ref 251), kE P "is_left" 535 (.ref 258), kE P "passing" 545 (.ref 265), kE P "rounds" 551 (.ref 270), kE P "NO_FAULT" 555 (.int (0) 554), kE P "NOT_FORMED" 557 (.int (1) 556), kE P "TOO_MUCH" 559 (.int (2) 558), kE P "CANNOT_STAND" 561 (.int (3) 560), kE P "CLASHES" 563 (.int (4) 562), kE P "MOST_BOATS" 565 (.int (64) 564), kE P "MOST_MOMENTS" 567 (.int (4096) 566), kE P "MOST_WINDS" 569 (.int (4096) 568), kE P "Moment" 619 (.ref 301), kE P "Log" 730 (.ref 383), kE P "DONE" 734 (.int (0) 733), kE P "TOO_LONG" 737 (.int (-2) 736), kE P "NONE_FOUND" 740 (.int (-3) 739), kE P "NO_SUCH" 743 (.int (-4) 742), kE P "FAULTY" 746 (.int (-6) 745), kE P "WRONG" 749 (.int (-8) 748), kE P "MOST_BYTES" 751 (.int (65536) 750), kE P "WIDEST_ZONE" 753 (.int (64) 752), kE P "is_too_far" 760 (.ref 394), kE P "which" 768 (.ref 401), kE P "Book" 941 (.ref 526), kE P "TAKE" 945 (.int (0) 944), kE P "MORE" 947 (.int (1) 946), kE P "TEXT" 949 (.int (2) 948), kE P "SIZES" 951 (.int (3) 950), kE P "NAME" 953 (.int (4) 952), kE P "BOAT_desk" 955 (.int (5) 954), kE P "TACK" 957 (.int (6) 956), kE P "NEXT" 959 (.int (7) 958), kE P "ROUND" 961 (.int (8) 960), kE P "PAIR" 963 (.int (9) 962), kE P "ZONE" 965 (.int (10) 964), kE P "OVER" 967 (.int (11) 966), kE P "ARGUMENTS" 1001 (.ref 531), kE P "answers" 1014 (.ref 538), kE P "has_row" 1021 (.ref 545), kE P "first_argument" 1029 (.ref 552), kE P "count_arguments" 1038 (.ref 559), kE P "answer_one" 1047 (.ref 566), kE P "answer_sailing" 1056 (.ref 573)] 105
noncomputable def kArgs (P : Params) : Obj := kD [kI 2 0 968, kI 3 0 970, kI 4 1 972, kI 5 2 974, kI 6 2 976, kI 7 2 978, kI 8 3 980, kI 9 3 982, kI 10 5 984, kI 11 6 986, kI 12 3 988] 11
noncomputable def kMom (P : Params) : Obj := kD [kE P "__module__" 577 (.str "boatlog.log" 552), kE P "__firstlineno__" 581 (.int (186) 580), kE P "__init__" 591 (.ref 284), kE P "heads_into_wind" 599 (.ref 291), kE P "change_since" 608 (.ref 298), kE P "__static_attributes__" 612 (.ref 299), kE P "__dict__" 614 (.ref 302), kE P "__weakref__" 616 (.ref 303), kE P "__doc__" 617 (.none)] 4
noncomputable def kLog (P : Params) : Obj := kD [kE P "__module__" 627 (.str "boatlog.log" 552), kE P "__firstlineno__" 631 (.int (202) 630), kE P "__init__" 638 (.ref 319), kE P "copied" 646 (.ref 326), kE P "write" 657 (.ref 333), kE P "add_line" 667 (.ref 340), kE P "add_told" 676 (.ref 347), kE P "add_boat" 684 (.ref 354), kE P "add_wind" 692 (.ref 361), kE P "add_moment" 700 (.ref 368), kE P "hulls_clash" 711 (.ref 375), kE P "tacks_with" 717 (.ref 380), kE P "__static_attributes__" 723 (.ref 381), kE P "__dict__" 725 (.ref 384), kE P "__weakref__" 727 (.ref 385), kE P "__doc__" 728 (.none)] 4
noncomputable def kBook (P : Params) : Obj := kD [kE P "__module__" 776 (.str "boatlog.book" 731), kE P "__firstlineno__" 780 (.int (308) 779), kE P "__init__" 787 (.ref 415), kE P "take" 795 (.ref 422), kE P "more" 803 (.ref 429), kE P "hold_grown" 813 (.ref 436), kE P "text" 820 (.ref 443), kE P "sizes" 827 (.ref 450), kE P "name" 835 (.ref 457), kE P "boat" 845 (.ref 464), kE P "tack" 854 (.ref 471), kE P "next_change" 866 (.ref 478), kE P "rounds_made" 872 (.ref 483), kE P "pair" 887 (.ref 490), kE P "zone" 898 (.ref 497), kE P "over" 904 (.ref 502), kE P "touch" 916 (.ref 509), kE P "has_boat" 924 (.ref 516), kE P "has_moment" 932 (.ref 523), kE P "__static_attributes__" 934 (.ref 524), kE P "__dict__" 936 (.ref 527), kE P "__weakref__" 938 (.ref 528), kE P "__doc__" 939 (.none)] 4
noncomputable def kf0 (p : Program) : PySem.W.Frag := [(21, kF "minus" "minus" (topP p 1) "boatlog.vectors" 187 20), (28, kF "plus" "plus" (topP p 2) "boatlog.vectors" 187 27), (35, kF "cross" "cross" (topP p 3) "boatlog.vectors" 187 34), (42, kF "dot" "dot" (topP p 4) "boatlog.vectors" 187 41), (49, kF "square" "square" (topP p 5) "boatlog.vectors" 187 48), (56, kF "side" "side" (topP p 7) "boatlog.straights" 228 55), (63, kF "goes_over" "goes_over" (topP p 8) "boatlog.straights" 228 62), (70, kF "when_over" "when_over" (topP p 9) "boatlog.straights" 228 69), (77, kF "lowest" "lowest" (topP p 10) "boatlog.straights" 228 76), (84, kF "meet" "meet" (topP p 11) "boatlog.straights" 228 83), (91, kF "reaches_meet" "reaches_meet" (topP p 12) "boatlog.straights" 228 90), (98, kF "is_near" "is_near" (topP p 13) "boatlog.straights" 228 97)]
noncomputable def kf1 (p : Program) : PySem.W.Frag := [(105, kF "bow" "bow" (topP p 15) "boatlog.hulls" 307 104), (112, kF "stern" "stern" (topP p 16) "boatlog.hulls" 307 111), (119, kF "heading" "heading" (topP p 17) "boatlog.hulls" 307 118), (126, kF "middle" "middle" (topP p 18) "boatlog.hulls" 307 125), (133, kF "is_behind" "is_behind" (topP p 19) "boatlog.hulls" 307 132), (140, kF "is_clear_astern" "is_clear_astern" (topP p 20) "boatlog.hulls" 307 139), (147, kF "is_to_leeward" "is_to_leeward" (topP p 21) "boatlog.hulls" 307 146), (154, kF "do_touch" "do_touch" (topP p 22) "boatlog.hulls" 307 153), (161, kF "is_in_zone" "is_in_zone" (topP p 23) "boatlog.hulls" 307 160), (168, kF "cut" "cut" (topP p 39) "boatlog.lines" 379 167), (173, kF "spelled" "spelled" (topP p 40) "boatlog.lines" 379 172), (180, kF "is_digit" "is_digit" (topP p 41) "boatlog.lines" 379 179)]
noncomputable def kf2 (p : Program) : PySem.W.Frag := [(185, kF "is_name" "is_name" (topP p 42) "boatlog.lines" 379 184), (192, kF "read_size" "read_size" (topP p 43) "boatlog.lines" 379 191), (199, kF "read_number" "read_number" (topP p 44) "boatlog.lines" 379 198), (204, kF "read_numbers" "read_numbers" (topP p 45) "boatlog.lines" 379 203), (211, kF "read_boat" "read_boat" (topP p 46) "boatlog.lines" 379 210), (218, kF "read_wind" "read_wind" (topP p 47) "boatlog.lines" 379 217), (223, kF "read_at" "read_at" (topP p 48) "boatlog.lines" 379 222), (230, kF "read_line" "read_line" (topP p 49) "boatlog.lines" 379 229), (237, kF "turned_by_half" "turned_by_half" (topP p 55) "boatlog.turns" 491 236), (244, kF "tack_after" "tack_after" (topP p 56) "boatlog.turns" 491 243), (251, kF "points_into" "points_into" (topP p 57) "boatlog.turns" 491 250), (258, kF "is_left" "is_left" (topP p 58) "boatlog.turns" 491 257)]
noncomputable def kf3 (p : Program) : PySem.W.Frag := [(265, kF "passing" "passing" (topP p 59) "boatlog.turns" 491 264), (270, kF "rounds" "rounds" (topP p 60) "boatlog.turns" 491 269), (284, kF "__init__" "Moment.__init__" (inClass (topP p 70) 0) "boatlog.log" 552 283), (291, kF "heads_into_wind" "Moment.heads_into_wind" (inClass (topP p 70) 1) "boatlog.log" 552 290), (298, kF "change_since" "Moment.change_since" (inClass (topP p 70) 2) "boatlog.log" 552 297), (319, kF "__init__" "Log.__init__" (inClass (topP p 71) 0) "boatlog.log" 552 318), (326, kF "copied" "Log.copied" (inClass (topP p 71) 1) "boatlog.log" 552 325), (333, kF "write" "Log.write" (inClass (topP p 71) 2) "boatlog.log" 552 332), (340, kF "add_line" "Log.add_line" (inClass (topP p 71) 3) "boatlog.log" 552 339), (347, kF "add_told" "Log.add_told" (inClass (topP p 71) 4) "boatlog.log" 552 346), (354, kF "add_boat" "Log.add_boat" (inClass (topP p 71) 5) "boatlog.log" 552 353), (361, kF "add_wind" "Log.add_wind" (inClass (topP p 71) 6) "boatlog.log" 552 360)]
noncomputable def kf4 (p : Program) : PySem.W.Frag := [(368, kF "add_moment" "Log.add_moment" (inClass (topP p 71) 7) "boatlog.log" 552 367), (375, kF "hulls_clash" "Log.hulls_clash" (inClass (topP p 71) 8) "boatlog.log" 552 374), (380, kF "tacks_with" "Log.tacks_with" (inClass (topP p 71) 9) "boatlog.log" 552 379), (394, kF "is_too_far" "is_too_far" (topP p 81) "boatlog.book" 731 393), (401, kF "which" "which" (topP p 82) "boatlog.book" 731 400), (415, kF "__init__" "Book.__init__" (inClass (topP p 83) 0) "boatlog.book" 731 414), (422, kF "take" "Book.take" (inClass (topP p 83) 1) "boatlog.book" 731 421), (429, kF "more" "Book.more" (inClass (topP p 83) 2) "boatlog.book" 731 428), (436, kF "hold_grown" "Book.hold_grown" (inClass (topP p 83) 3) "boatlog.book" 731 435), (443, kF "text" "Book.text" (inClass (topP p 83) 4) "boatlog.book" 731 442), (450, kF "sizes" "Book.sizes" (inClass (topP p 83) 5) "boatlog.book" 731 449), (457, kF "name" "Book.name" (inClass (topP p 83) 6) "boatlog.book" 731 456)]
noncomputable def kf5 (p : Program) : PySem.W.Frag := [(464, kF "boat" "Book.boat" (inClass (topP p 83) 7) "boatlog.book" 731 463), (471, kF "tack" "Book.tack" (inClass (topP p 83) 8) "boatlog.book" 731 470), (478, kF "next_change" "Book.next_change" (inClass (topP p 83) 9) "boatlog.book" 731 477), (483, kF "rounds_made" "Book.rounds_made" (inClass (topP p 83) 10) "boatlog.book" 731 482), (490, kF "pair" "Book.pair" (inClass (topP p 83) 11) "boatlog.book" 731 489), (497, kF "zone" "Book.zone" (inClass (topP p 83) 12) "boatlog.book" 731 496), (502, kF "over" "Book.over" (inClass (topP p 83) 13) "boatlog.book" 731 501), (509, kF "touch" "Book.touch" (inClass (topP p 83) 14) "boatlog.book" 731 508), (516, kF "has_boat" "Book.has_boat" (inClass (topP p 83) 15) "boatlog.book" 731 515), (523, kF "has_moment" "Book.has_moment" (inClass (topP p 83) 16) "boatlog.book" 731 522), (538, kF "answers" "answers" (topP p 98) "boatlog.desk" 942 537), (545, kF "has_row" "has_row" (topP p 99) "boatlog.desk" 942 544)]
noncomputable def kf6 (p : Program) : PySem.W.Frag := [(552, kF "first_argument" "first_argument" (topP p 100) "boatlog.desk" 942 551), (559, kF "count_arguments" "count_arguments" (topP p 101) "boatlog.desk" 942 558), (566, kF "answer_one" "answer_one" (topP p 102) "boatlog.desk" 942 565), (573, kF "answer_sailing" "answer_sailing" (topP p 103) "boatlog.desk" 942 572)]
noncomputable def kc0 : PySem.W.Frag := [(20, kC "minus" "minus" 189 2 2 0 3 15 (.ref 17) (.ref 18) (.ref 19) 194), (27, kC "plus" "plus" 197 4 2 0 3 22 (.ref 24) (.ref 25) (.ref 26) 202), (34, kC "cross" "cross" 205 6 2 0 3 29 (.ref 31) (.ref 32) (.ref 33) 210), (41, kC "dot" "dot" 213 8 2 0 3 36 (.ref 38) (.ref 39) (.ref 40) 218), (48, kC "square" "square" 221 10 1 0 3 43 (.ref 45) (.ref 46) (.ref 47) 225), (55, kC "side" "side" 230 13 3 0 3 50 (.ref 52) (.ref 53) (.ref 54) 236), (62, kC "goes_over" "goes_over" 239 15 4 0 3 57 (.ref 59) (.ref 60) (.ref 61) 246), (69, kC "when_over" "when_over" 249 19 4 0 3 64 (.ref 66) (.ref 67) (.ref 68) 257), (76, kC "lowest" "lowest" 260 22 2 0 3 71 (.ref 73) (.ref 74) (.ref 75) 268), (83, kC "meet" "meet" 271 30 4 0 3 78 (.ref 80) (.ref 81) (.ref 82) 278), (90, kC "reaches_meet" "reaches_meet" 281 34 4 0 3 85 (.ref 87) (.ref 88) (.ref 89) 288), (97, kC "is_near" "is_near" 291 36 4 0 3 92 (.ref 94) (.ref 95) (.ref 96) 304)]
noncomputable def kc1 : PySem.W.Frag := [(104, kC "bow" "bow" 309 49 1 0 3 99 (.ref 101) (.ref 102) (.ref 103) 313), (111, kC "stern" "stern" 316 51 1 0 3 106 (.ref 108) (.ref 109) (.ref 110) 320), (118, kC "heading" "heading" 323 53 1 0 3 113 (.ref 115) (.ref 116) (.ref 117) 327), (125, kC "middle" "middle" 330 55 1 0 3 120 (.ref 122) (.ref 123) (.ref 124) 334), (132, kC "is_behind" "is_behind" 337 57 2 0 3 127 (.ref 129) (.ref 130) (.ref 131) 342), (139, kC "is_clear_astern" "is_clear_astern" 345 59 2 0 3 134 (.ref 136) (.ref 137) (.ref 138) 350), (146, kC "is_to_leeward" "is_to_leeward" 353 61 3 0 3 141 (.ref 143) (.ref 144) (.ref 145) 359), (153, kC "do_touch" "do_touch" 362 63 2 0 3 148 (.ref 150) (.ref 151) (.ref 152) 367), (160, kC "is_in_zone" "is_in_zone" 370 65 3 0 3 155 (.ref 157) (.ref 158) (.ref 159) 376), (167, kC "cut" "cut" 409 82 2 0 3 162 (.ref 164) (.ref 165) (.ref 166) 417), (172, kC "spelled" "spelled" 420 93 1 0 3 169 (.none) (.none) (.ref 171) 423), (179, kC "is_digit" "is_digit" 426 95 1 0 3 174 (.ref 176) (.ref 177) (.ref 178) 430)]
noncomputable def kc2 : PySem.W.Frag := [(184, kC "is_name" "is_name" 433 97 1 0 3 181 (.none) (.none) (.ref 183) 436), (191, kC "read_size" "read_size" 439 101 1 0 3 186 (.ref 188) (.ref 189) (.ref 190) 445), (198, kC "read_number" "read_number" 448 112 1 0 3 193 (.ref 195) (.ref 196) (.ref 197) 453), (203, kC "read_numbers" "read_numbers" 456 119 1 0 3 200 (.none) (.none) (.ref 202) 459), (210, kC "read_boat" "read_boat" 462 124 1 0 3 205 (.ref 207) (.ref 208) (.ref 209) 466), (217, kC "read_wind" "read_wind" 469 128 1 0 3 212 (.ref 214) (.ref 215) (.ref 216) 474), (222, kC "read_at" "read_at" 477 133 1 0 3 219 (.none) (.none) (.ref 221) 480), (229, kC "read_line" "read_line" 483 140 1 0 3 224 (.ref 226) (.ref 227) (.ref 228) 488), (236, kC "turned_by_half" "turned_by_half" 501 154 2 0 3 231 (.ref 233) (.ref 234) (.ref 235) 506), (243, kC "tack_after" "tack_after" 509 156 3 0 3 238 (.ref 240) (.ref 241) (.ref 242) 516), (250, kC "points_into" "points_into" 519 163 2 0 3 245 (.ref 247) (.ref 248) (.ref 249) 524), (257, kC "is_left" "is_left" 527 165 2 0 3 252 (.ref 254) (.ref 255) (.ref 256) 533)]
noncomputable def kc3 : PySem.W.Frag := [(264, kC "passing" "passing" 536 168 3 0 3 259 (.ref 261) (.ref 262) (.ref 263) 543), (269, kC "rounds" "rounds" 546 175 1 0 3 266 (.none) (.none) (.ref 268) 549), (283, kC "__init__" "Moment.__init__" 582 188 4 0 3 278 (.ref 280) (.ref 281) (.ref 282) 589), (290, kC "heads_into_wind" "Moment.heads_into_wind" 592 193 2 0 3 285 (.ref 287) (.ref 288) (.ref 289) 597), (297, kC "change_since" "Moment.change_since" 600 196 3 0 3 292 (.ref 294) (.ref 295) (.ref 296) 606), (318, kC "__init__" "Log.__init__" 632 204 1 0 3 313 (.ref 315) (.ref 316) (.ref 317) 636), (325, kC "copied" "Log.copied" 639 211 1 0 3 320 (.ref 322) (.ref 323) (.ref 324) 644), (332, kC "write" "Log.write" 647 220 2 0 3 327 (.ref 329) (.ref 330) (.ref 331) 655), (339, kC "add_line" "Log.add_line" 658 231 2 0 3 334 (.ref 336) (.ref 337) (.ref 338) 665), (346, kC "add_told" "Log.add_told" 668 240 3 0 3 341 (.ref 343) (.ref 344) (.ref 345) 674), (353, kC "add_boat" "Log.add_boat" 677 247 2 0 3 348 (.ref 350) (.ref 351) (.ref 352) 682), (360, kC "add_wind" "Log.add_wind" 685 257 2 0 3 355 (.ref 357) (.ref 358) (.ref 359) 690)]
noncomputable def kc4 : PySem.W.Frag := [(367, kC "add_moment" "Log.add_moment" 693 267 2 0 3 362 (.ref 364) (.ref 365) (.ref 366) 698), (374, kC "hulls_clash" "Log.hulls_clash" 701 277 2 0 3 369 (.ref 371) (.ref 372) (.ref 373) 709), (379, kC "tacks_with" "Log.tacks_with" 712 288 2 0 3 376 (.none) (.none) (.ref 378) 715), (393, kC "is_too_far" "is_too_far" 754 304 1 0 3 388 (.ref 390) (.ref 391) (.ref 392) 758), (400, kC "which" "which" 761 306 2 0 3 395 (.ref 397) (.ref 398) (.ref 399) 766), (414, kC "__init__" "Book.__init__" 781 310 1 0 3 409 (.ref 411) (.ref 412) (.ref 413) 785), (421, kC "take" "Book.take" 788 313 2 0 3 416 (.ref 418) (.ref 419) (.ref 420) 793), (428, kC "more" "Book.more" 796 316 2 0 3 423 (.ref 425) (.ref 426) (.ref 427) 801), (435, kC "hold_grown" "Book.hold_grown" 804 319 3 0 3 430 (.ref 432) (.ref 433) (.ref 434) 811), (442, kC "text" "Book.text" 814 328 1 0 3 437 (.ref 439) (.ref 440) (.ref 441) 818), (449, kC "sizes" "Book.sizes" 821 331 1 0 3 444 (.ref 446) (.ref 447) (.ref 448) 825), (456, kC "name" "Book.name" 828 334 2 0 3 451 (.ref 453) (.ref 454) (.ref 455) 833)]
noncomputable def kc5 : PySem.W.Frag := [(463, kC "boat" "Book.boat" 836 339 3 0 3 458 (.ref 460) (.ref 461) (.ref 462) 843), (470, kC "tack" "Book.tack" 846 345 3 0 3 465 (.ref 467) (.ref 468) (.ref 469) 852), (477, kC "next_change" "Book.next_change" 855 350 3 0 3 472 (.ref 474) (.ref 475) (.ref 476) 864), (482, kC "rounds_made" "Book.rounds_made" 867 360 4 0 3 479 (.none) (.none) (.ref 481) 870), (489, kC "pair" "Book.pair" 873 367 4 0 3 484 (.ref 486) (.ref 487) (.ref 488) 885), (496, kC "zone" "Book.zone" 888 379 5 0 3 491 (.ref 493) (.ref 494) (.ref 495) 896), (501, kC "over" "Book.over" 899 386 5 0 3 498 (.none) (.none) (.ref 500) 902), (508, kC "touch" "Book.touch" 905 397 4 0 3 503 (.ref 505) (.ref 506) (.ref 507) 914), (515, kC "has_boat" "Book.has_boat" 917 408 2 0 3 510 (.ref 512) (.ref 513) (.ref 514) 922), (522, kC "has_moment" "Book.has_moment" 925 411 2 0 3 517 (.ref 519) (.ref 520) (.ref 521) 930), (537, kC "answers" "answers" 1002 427 1 0 3 532 (.ref 534) (.ref 535) (.ref 536) 1012), (544, kC "has_row" "has_row" 1015 439 1 0 3 539 (.ref 541) (.ref 542) (.ref 543) 1019)]
noncomputable def kc6 : PySem.W.Frag := [(551, kC "first_argument" "first_argument" 1022 441 2 0 3 546 (.ref 548) (.ref 549) (.ref 550) 1027), (558, kC "count_arguments" "count_arguments" 1030 443 2 0 3 553 (.ref 555) (.ref 556) (.ref 557) 1036), (565, kC "answer_one" "answer_one" 1039 446 3 0 3 560 (.ref 562) (.ref 563) (.ref 564) 1045), (572, kC "answer_sailing" "answer_sailing" 1048 462 3 0 3 567 (.ref 569) (.ref 570) (.ref 571) 1054)]
noncomputable def kfr (p : Program) (P : Params) : PySem.W.Frag := [(3, kGlob P), (531, kArgs P), (300, kMom P), (382, kLog P), (525, kBook P), (301, kL "Moment" 301 300 570 578), (383, kL "Log" 383 382 620 628), (526, kL "Book" 526 525 769 777)] ++ (kf0 p) ++ (kf1 p) ++ (kf2 p) ++ (kf3 p) ++ (kf4 p) ++ (kf5 p) ++ (kf6 p) ++ (kc0) ++ (kc1) ++ (kc2) ++ (kc3) ++ (kc4) ++ (kc5) ++ (kc6)
def kAs : List Addr := [3, 531, 300, 382, 525, 301, 383, 526, 21, 28, 35, 42, 49, 56, 63, 70, 77, 84, 91, 98, 105, 112, 119, 126, 133, 140, 147, 154, 161, 168, 173, 180, 185, 192, 199, 204, 211, 218, 223, 230, 237, 244, 251, 258, 265, 270, 284, 291, 298, 319, 326, 333, 340, 347, 354, 361, 368, 375, 380, 394, 401, 415, 422, 429, 436, 443, 450, 457, 464, 471, 478, 483, 490, 497, 502, 509, 516, 523, 538, 545, 552, 559, 566, 573, 20, 27, 34, 41, 48, 55, 62, 69, 76, 83, 90, 97, 104, 111, 118, 125, 132, 139, 146, 153, 160, 167, 172, 179, 184, 191, 198, 203, 210, 217, 222, 229, 236, 243, 250, 257, 264, 269, 283, 290, 297, 318, 325, 332, 339, 346, 353, 360, 367, 374, 379, 393, 400, 414, 421, 428, 435, 442, 449, 456, 463, 470, 477, 482, 489, 496, 501, 508, 515, 522, 537, 544, 551, 558, 565, 572]
noncomputable def qv (p : Program) : Program := { p with main := { p.main with body := [topP p 98] } }
def bindN : Stmt → List Str
  | .FunctionDef n .. => [n]
  | .ClassDef n .. => [n]
  | .Assign [.Name n _] _ _ => [n]
  | _ => []
noncomputable def looseN (p : Program) : List Str := (p.main.body.eraseIdx 98).flatMap bindN
end Bl
end
section
set_option maxHeartbeats 4000000
namespace Bl
open PySem PySem.Spec PySem.W
noncomputable abbrev runF (w : World) (os : OsState) := PySem.W.Fast.tw10110043849684766642 PySem.W.Fast.tw14364793385576792824 pF w 11 (some (.ref 6)) 1 3800 (sb w os) (piecesOf (behindTheImports pF) (envT pF) (cT pF) p0 bT)
noncomputable abbrev xtP (p : Program) (s : Shared) : Bool := xlAt (qv p) [] s && recOk [] s
def GoodS (w : World) : Prop := ∀ os, (runF w os).map (fun r => (r.1, r.2.2, (staticsOk (PySem.W.Fast.tw5923862056798008813 pF.main.body) (boot_heap w.params) r.2.1.abs.heap && namesBound pF r.2.1.abs.heap && gensDone r.2.1.abs && laidKept (boot_heap w.params) r.2.1.abs.heap))) = some (Flow.next, (cT pF, posE), true)
def GoodO (w : World) : Prop := ∀ os, (runF w os).map (fun r => PySem.W.Fast.tw4187177175401517315 (qv pF) (looseN pF) (PySem.W.Fast.tw5923862056798008813 pF.main.body) (xtP pF) true r.2.1.abs) = some (openGood (qv pF) (looseN pF))
def GoodK (w : World) : Prop := ∀ os, (runF w os).map (fun r => kAs.map r.2.1.abs.heap.get?) = some ((kfr pF w.params).map fun x => some x.2)
theorem goodS0 (w : World) : GoodS (w.withFollow "special-get-raises" false) := by
  intro os
  kernel_rfl
theorem goodS1 (w : World) : GoodS (w.withFollow "special-get-raises" true) := by
  intro os
  kernel_rfl
theorem goodS (w : World) : GoodS w := byRow2 "special-get-raises" goodS0 goodS1 w
theorem goodO0 (w : World) : GoodO (w.withFollow "special-get-raises" false) := by
  intro os
  kernel_rfl
theorem goodO1 (w : World) : GoodO (w.withFollow "special-get-raises" true) := by
  intro os
  kernel_rfl
theorem goodO (w : World) : GoodO w := byRow2 "special-get-raises" goodO0 goodO1 w
theorem goodK0 (w : World) : GoodK (w.withFollow "special-get-raises" false) := by
  intro os
  kernel_rfl
theorem goodK1 (w : World) : GoodK (w.withFollow "special-get-raises" true) := by
  intro os
  kernel_rfl
theorem goodK (w : World) : GoodK w := byRow2 "special-get-raises" goodK0 goodK1 w
end Bl
end
section
set_option maxHeartbeats 4000000
namespace Bl
open PySem PySem.Spec PySem.W
theorem opt3 {A B C D : Type} {o : Option A} {f : A → B} {g : A → C} {h : A → D} {b : B} {c : C} {d : D} (x : o.map f = some b) (y : o.map g = some c) (z : o.map h = some d) : ∃ r, o = some r ∧ f r = b ∧ g r = c ∧ h r = d := by
  cases o with
  | none => cases x
  | some r => exact ⟨r, rfl, Option.some.inj x, Option.some.inj y, Option.some.inj z⟩
theorem pre_go (w : World) (os : OsState) : topGo treeTable pF w 11 (some (.ref 6)) 12 ⟨boot_heap w.params, Array.mk [], boot_drawn, boot_toks, os⟩ (topStub pF) = some ((sb w os).abs, ⟨denote treeTable (cT pF), cT pF, p0, bT⟩) := by
  rw [PySem.W.Fast.te15667345088766844465, PySem.W.Fast.te11892475500146522536, PySem.W.Fast.te14364793385576792824]
  kernel_rfl
theorem block_go (w : World) (os : OsState) : segRun treeTable pF w 11 (some (.ref 6)) 1 1 (sb w os).abs (blockOf (behindTheImports pF) (envT pF) (cT pF) p0 bT) = some (.next, (sb w os).abs, cT pF, p0) := by
  rw [PySem.W.Fast.te14374325043358763698, PySem.W.Fast.te14364793385576792824]
  kernel_rfl
theorem fin_go (w : World) (s : Shared) (c : Code) (q : Pos) : topRun treeTable pF w 11 (some (.ref 6)) 2 s ⟨doneF .next, c, q, [topFrame p0]⟩ = some s := by
  kernel_rfl
theorem size_go (w : World) : ((boot_heap w.params).isNs mainGlobals && (Array.mk ([] : List GenState)).size == 0, (boot_heap w.params).objs.size, (boot_heap w.params).nsMap mainGlobals "__annotations__") = (true, 11, some (.ref 6)) := by
  kernel_rfl
theorem open_go (w : World) : (fencedOpening treeTable pF w 7700).map (fun s => (s.heap, s.gens, s.drawn, s.toks)) = some (boot_heap w.params, Array.mk [], boot_drawn, boot_toks) :=
  boot_open (by kernel_rfl) (by decide +kernel) (fun s => by kernel_rfl) w
theorem top_go (w : World) (os : OsState) : ∃ s : Shared, topRun treeTable pF w 11 (some (.ref 6)) (12 + (1 + (3800 + 2))) ⟨boot_heap w.params, Array.mk [], boot_drawn, boot_toks, os⟩ (topStub pF) = some s ∧
    (staticsOk (importedModules pF.main.body) (boot_heap w.params) s.heap && namesBound pF s.heap && gensDone s && laidKept (boot_heap w.params) s.heap) = true ∧ openSeen (qv pF) (looseN pF) (importedModules pF.main.body) (xtP pF) true s = openGood (qv pF) (looseN pF) ∧ kAs.map s.heap.get? = (kfr pF w.params).map fun x => some x.2 := by
  obtain ⟨⟨f, S, c, q⟩, hr, e, e4, e5⟩ := opt3 (goodS w os) (goodO w os) (goodK w os)
  obtain ⟨e1, e2⟩ := Prod.mk.inj e
  obtain ⟨e2, e3⟩ := Prod.mk.inj e2
  obtain ⟨e2, e2'⟩ := Prod.mk.inj e2
  have e1' : f = .next := e1
  have e2a : c = cT pF := e2
  have e2b : q = posE := e2'
  subst e1' e2a e2b
  have h1 : segRunT treeTable pF w 11 (some (.ref 6)) 1 3800 (sb w os) (piecesOf (behindTheImports pF) (envT pF) (cT pF) p0 bT) = some (.next, S, cT pF, posE) := by
    rw [PySem.W.Fast.te10110043849684766642, PySem.W.Fast.te14364793385576792824]
    exact hr
  have k1 := piece_app (rest := []) (segRun_of h1) (piece_nil (fin_go w S.abs (cT pF) posE))
  rw [List.append_nil] at k1
  have k3 := go_top (pre_go w os) (piece_block (block_go w os) k1)
  refine ⟨S.abs, k3, ?_, ?_, e5⟩
  · rw [PySem.W.Fast.te5923862056798008813]
    exact e3
  · rw [PySem.W.Fast.te4187177175401517315, PySem.W.Fast.te5923862056798008813]
    exact e4
theorem left_of {p q : Program} {loose : List Str} {Xt : Shared → Bool} {T : Type} {Yf : Shared → T} {Ya : World → T} {H0 : Params → Heap} {g0 : Array GenState} {d0 : Drawn} {k0 m0 M N : Nat} {an : Option Value}
    (ho : ∀ w : World, (fencedOpening treeTable p w N).map (fun s => (s.heap, s.gens, s.drawn, s.toks)) = some (H0 w.params, g0, d0, k0))
    (hz : ∀ w : World, ((H0 w.params).isNs mainGlobals && g0.size == 0, (H0 w.params).objs.size, (H0 w.params).nsMap mainGlobals "__annotations__") = (true, m0, an))
    (hr : ∀ (w : World) (os : OsState), ∃ s : Shared, topRun treeTable p w m0 an M ⟨H0 w.params, g0, d0, k0, os⟩ (topStub p) = some s ∧ (staticsOk (importedModules p.main.body) (H0 w.params) s.heap && namesBound p s.heap && gensDone s && laidKept (H0 w.params) s.heap) = true ∧
      openSeen q loose (importedModules p.main.body) Xt true s = openGood q loose ∧ Yf s = Ya w) (hM : M ≤ N) : LeftO p q loose Xt Yf Ya N := by
  intro w
  have h1 := ho w
  cases hf : fencedOpening treeTable p w N with
  | none => rw [hf] at h1; cases h1
  | some s =>
    rw [hf] at h1
    obtain ⟨hp, gs, d, k, os⟩ := s
    have h2 : (hp, gs, d, k) = (H0 w.params, g0, d0, k0) := Option.some.inj h1
    obtain ⟨b1, h3⟩ := Prod.mk.inj h2
    obtain ⟨b2, h4⟩ := Prod.mk.inj h3
    obtain ⟨b3, b4⟩ := Prod.mk.inj h4
    subst b1 b2 b3 b4
    obtain ⟨s1, r1, r2, r3, r4⟩ := hr w os
    obtain ⟨z1, h5⟩ := Prod.mk.inj (hz w)
    obtain ⟨z2, z3⟩ := Prod.mk.inj h5
    have r5 := topRun_mono (N - M) _ _ _ _ r1
    rw [show M + (N - M) = N by omega] at r5
    have tf : topFrom treeTable p w N ⟨H0 w.params, gs, d, k, os⟩ = some s1 := by
      unfold topFrom
      dsimp only
      rw [z1, z2, z3, r5]
      show (match staticsOk (importedModules p.main.body) (H0 w.params) s1.heap && namesBound p s1.heap && gensDone s1 && laidKept (H0 w.params) s1.heap with | true => some s1 | false => none) = some s1
      rw [r2]
    unfold openEnds
    rw [hf]
    have e : (some (⟨H0 w.params, gs, d, k, os⟩ : Shared)).bind (topFrom treeTable p w N) = some s1 := tf
    rw [e]
    show some (openSeen q loose (importedModules p.main.body) Xt true s1, Yf s1) = _
    rw [r3, r4]
theorem left_go : LeftO pF (qv pF) (looseN pF) (xtP pF) (fun s => kAs.map s.heap.get?) (fun w => (kfr pF w.params).map fun x => some x.2) 7700 := left_of open_go size_go top_go (by decide)
theorem left_W : LeftO pW (qv pW) (looseN pW) (xtP pW) (fun s => kAs.map s.heap.get?) (fun w => (kfr pW w.params).map fun x => some x.2) 7700 := by
  rw [pF_eq]
  exact left_go
noncomputable abbrev yfK (s : Shared) : List (Option Obj) := kAs.map s.heap.get?
noncomputable abbrev yaK (w : World) : List (Option Obj) := (kfr pW w.params).map fun x => some x.2
theorem prog_W : PySem.Challenge.rw_boatlog_s01_answers.prog = pW := rfl
theorem left_R : LeftO PySem.Challenge.rw_boatlog_s01_answers.prog (qv pW) (looseN pW) (xtP pW) yfK yaK 7700 := by
  rw [prog_W]
  exact left_W
end Bl
end
section
set_option maxHeartbeats 2000000
namespace Bl
open PySem PySem.Spec PyProof.Rows L2
def Sm (z : Int) : Prop := -(2 ^ 40) ≤ z ∧ z ≤ 2 ^ 40
def PtSm (p : Rg.Pt) : Prop := Sm p.x ∧ Sm p.y
theorem Sm.mul {z : Int} (h : Sm z) : -(2 ^ 64) < z ∧ z < 2 ^ 64 := by
  obtain ⟨a, b⟩ := h
  constructor
  · exact Int.lt_of_lt_of_le (by decide) a
  · exact Int.lt_of_le_of_lt b (by decide)
section
variable {P : Program} {w : World} {K : PySem.W.Frag} {mg : Str → Option Value} {base : Heap}
def spCross : Sp := fun vs H Q _ => ∃ (a b : Addr) (p q : Rg.Pt), vs = [.ref a, .ref b] ∧ PtAt H p a ∧ PtAt H q b ∧ PtSm p ∧ Q (.int (Rg.cross p q)) H
def spDot : Sp := fun vs H Q _ => ∃ (a b : Addr) (p q : Rg.Pt), vs = [.ref a, .ref b] ∧ PtAt H p a ∧ PtAt H q b ∧ PtSm p ∧ Q (.int (Rg.dot p q)) H
theorem sc_cross : FnScope ["one", "other"] ["one", "other"] (defScope s_cross) := ⟨rfl, rfl, rfl, by decide +kernel, rfl, by decide +kernel, by decide +kernel⟩
theorem sc_dot : FnScope ["one", "other"] ["one", "other"] (defScope s_dot) := ⟨rfl, rfl, rfl, by decide +kernel, rfl, by decide +kernel, by decide +kernel⟩
theorem ok_cross (F : FunG K mg "cross" s_cross ["one", "other"]) : Ok P w K mg base 1 "cross" ["one", "other"] spCross := by
  refine F.ok sc_cross (fun vs H Q E h => ?_) (fun f cdv A outer s H vs Q E hr h => ?_)
  · obtain ⟨a, b, p, q, rfl, _⟩ := h
    rfl
  · obtain ⟨a, b, p, q, rfl, hp, hq, sp, k⟩ := h
    refine ⟨_, pss_one (ps_ret (pe_op op_sub (pe_op op_mul (pe_ix ix_tup (pv 0) pe_int (fun _ _ => rfl)) (pe_ix ix_tup (pv 1) pe_int (fun _ _ => rfl)))
      (pe_op op_mul (pe_ix ix_tup (pv 0) pe_int (fun _ _ => rfl)) (pe_ix ix_tup (pv 1) pe_int (fun _ _ => rfl))))), ?_⟩
    refine ⟨_, rfl, a, _, _, _, rfl, rfl, SqT.of hp, rfl, _, rfl, b, _, _, _, rfl, rfl, SqT.of hq, rfl, _, _, rfl, rfl, .inl sp.1.mul,
      _, rfl, a, _, _, _, rfl, rfl, SqT.of hp, rfl, _, rfl, b, _, _, _, rfl, rfl, SqT.of hq, rfl, _, _, rfl, rfl, .inl sp.2.mul, _, _, rfl, rfl, k⟩
theorem ok_dot (F : FunG K mg "dot" s_dot ["one", "other"]) : Ok P w K mg base 1 "dot" ["one", "other"] spDot := by
  refine F.ok sc_dot (fun vs H Q E h => ?_) (fun f cdv A outer s H vs Q E hr h => ?_)
  · obtain ⟨a, b, p, q, rfl, _⟩ := h
    rfl
  · obtain ⟨a, b, p, q, rfl, hp, hq, sp, k⟩ := h
    refine ⟨_, pss_one (ps_ret (pe_op op_add (pe_op op_mul (pe_ix ix_tup (pv 0) pe_int (fun _ _ => rfl)) (pe_ix ix_tup (pv 1) pe_int (fun _ _ => rfl)))
      (pe_op op_mul (pe_ix ix_tup (pv 0) pe_int (fun _ _ => rfl)) (pe_ix ix_tup (pv 1) pe_int (fun _ _ => rfl))))), ?_⟩
    refine ⟨_, rfl, a, _, _, _, rfl, rfl, SqT.of hp, rfl, _, rfl, b, _, _, _, rfl, rfl, SqT.of hq, rfl, _, _, rfl, rfl, .inl sp.1.mul,
      _, rfl, a, _, _, _, rfl, rfl, SqT.of hp, rfl, _, rfl, b, _, _, _, rfl, rfl, SqT.of hq, rfl, _, _, rfl, rfl, .inl sp.2.mul, _, _, rfl, rfl, k⟩
def spMinus : Sp := fun vs H Q _ => ∃ (a b : Addr) (p q : Rg.Pt), vs = [.ref a, .ref b] ∧ PtAt H p a ∧ PtAt H q b ∧ ∀ (H' : Hp) (r : Addr), Same H H' → PtAt H' (p.sub q) r → Q (.ref r) H'
def spPlus : Sp := fun vs H Q _ => ∃ (a b : Addr) (p q : Rg.Pt), vs = [.ref a, .ref b] ∧ PtAt H p a ∧ PtAt H q b ∧ ∀ (H' : Hp) (r : Addr), Same H H' → PtAt H' (p.add q) r → Q (.ref r) H'
def spSquare : Sp := fun vs H Q _ => ∃ (a : Addr) (p : Rg.Pt), vs = [.ref a] ∧ PtAt H p a ∧ PtSm p ∧ Q (.int (Rg.dot p p)) H
theorem sc_minus : FnScope ["one", "other"] ["one", "other"] (defScope s_minus) := ⟨rfl, rfl, rfl, by decide +kernel, rfl, by decide +kernel, by decide +kernel⟩
theorem sc_plus : FnScope ["one", "other"] ["one", "other"] (defScope s_plus) := ⟨rfl, rfl, rfl, by decide +kernel, rfl, by decide +kernel, by decide +kernel⟩
theorem sc_square : FnScope ["vector"] ["vector"] (defScope s_square) := ⟨rfl, rfl, rfl, by decide +kernel, rfl, by decide +kernel, by decide +kernel⟩
theorem ok_minus (F : FunG K mg "minus" s_minus ["one", "other"]) : Ok P w K mg base 1 "minus" ["one", "other"] spMinus := by
  refine F.ok sc_minus (fun vs H Q E h => ?_) (fun f cdv A outer s H vs Q E hr h => ?_)
  · obtain ⟨a, b, p, q, rfl, _⟩ := h
    rfl
  · obtain ⟨a, b, p, q, rfl, hp, hq, k⟩ := h
    refine ⟨_, pss_one (ps_ret (pe_tup (pa_cons (pe_op op_sub (pe_ix ix_tup (pv 0) pe_int (fun _ _ => rfl)) (pe_ix ix_tup (pv 1) pe_int (fun _ _ => rfl)))
      (pa_cons (pe_op op_sub (pe_ix ix_tup (pv 0) pe_int (fun _ _ => rfl)) (pe_ix ix_tup (pv 1) pe_int (fun _ _ => rfl))) pa_nil)))), ?_⟩
    refine ⟨_, rfl, a, _, _, _, rfl, rfl, SqT.of hp, rfl, _, rfl, b, _, _, _, rfl, rfl, SqT.of hq, rfl, _, _, rfl, rfl,
      _, rfl, a, _, _, _, rfl, rfl, SqT.of hp, rfl, _, rfl, b, _, _, _, rfl, rfl, SqT.of hq, rfl, _, _, rfl, rfl, (by show 2 ≤ sizeLine; decide), fun t ht => ?_⟩
    exact k _ t (Same.new ht) upd_same
theorem ok_plus (F : FunG K mg "plus" s_plus ["one", "other"]) : Ok P w K mg base 1 "plus" ["one", "other"] spPlus := by
  refine F.ok sc_plus (fun vs H Q E h => ?_) (fun f cdv A outer s H vs Q E hr h => ?_)
  · obtain ⟨a, b, p, q, rfl, _⟩ := h
    rfl
  · obtain ⟨a, b, p, q, rfl, hp, hq, k⟩ := h
    refine ⟨_, pss_one (ps_ret (pe_tup (pa_cons (pe_op op_add (pe_ix ix_tup (pv 0) pe_int (fun _ _ => rfl)) (pe_ix ix_tup (pv 1) pe_int (fun _ _ => rfl)))
      (pa_cons (pe_op op_add (pe_ix ix_tup (pv 0) pe_int (fun _ _ => rfl)) (pe_ix ix_tup (pv 1) pe_int (fun _ _ => rfl))) pa_nil)))), ?_⟩
    refine ⟨_, rfl, a, _, _, _, rfl, rfl, SqT.of hp, rfl, _, rfl, b, _, _, _, rfl, rfl, SqT.of hq, rfl, _, _, rfl, rfl,
      _, rfl, a, _, _, _, rfl, rfl, SqT.of hp, rfl, _, rfl, b, _, _, _, rfl, rfl, SqT.of hq, rfl, _, _, rfl, rfl, (by show 2 ≤ sizeLine; decide), fun t ht => ?_⟩
    exact k _ t (Same.new ht) upd_same
theorem ok_square (F : FunG K mg "square" s_square ["vector"]) (OD : Ok P w K mg base 1 "dot" ["one", "other"] spDot) : Ok P w K mg base 2 "square" ["vector"] spSquare := by
  refine F.ok sc_square (fun vs H Q E h => ?_) (fun f cdv A outer s H vs Q E hr h => ?_)
  · obtain ⟨a, p, rfl, _⟩ := h
    rfl
  · obtain ⟨a, p, rfl, hp, sp, k⟩ := h
    refine ⟨_, pss_one (ps_ret (pe_fn OD hr (pa_cons (pv 0) (pa_cons (pv 0) pa_nil)))), ?_⟩
    exact ⟨_, rfl, _, rfl, a, a, p, p, rfl, hp, hp, sp, k⟩
def spBow : Sp := fun vs H Q _ => ∃ (a : Addr) (h : Rg.Hull), vs = [.ref a] ∧ HullAt H h a ∧ ∀ (H' : Hp) (q : Addr), Same H H' → PtAt H' h.bow q → Q (.ref q) H'
def spStern : Sp := fun vs H Q _ => ∃ (a : Addr) (h : Rg.Hull), vs = [.ref a] ∧ HullAt H h a ∧ ∀ (H' : Hp) (q : Addr), Same H H' → PtAt H' h.stern q → Q (.ref q) H'
def spHeading : Sp := fun vs H Q _ => ∃ (a : Addr) (h : Rg.Hull), vs = [.ref a] ∧ HullAt H h a ∧ ∀ (H' : Hp) (q : Addr), Same H H' → PtAt H' h.heading q → Q (.ref q) H'
def spMiddle : Sp := fun vs H Q _ => ∃ (a : Addr) (h : Rg.Hull), vs = [.ref a] ∧ HullAt H h a ∧ ∀ (H' : Hp) (q : Addr), Same H H' → PtAt H' (h.bow.add h.stern) q → Q (.ref q) H'
theorem sc_bow : FnScope ["hull"] ["hull"] (defScope s_bow) := ⟨rfl, rfl, rfl, by decide +kernel, rfl, by decide +kernel, by decide +kernel⟩
theorem sc_stern : FnScope ["hull"] ["hull"] (defScope s_stern) := ⟨rfl, rfl, rfl, by decide +kernel, rfl, by decide +kernel, by decide +kernel⟩
theorem sc_heading : FnScope ["hull"] ["hull"] (defScope s_heading) := ⟨rfl, rfl, rfl, by decide +kernel, rfl, by decide +kernel, by decide +kernel⟩
theorem sc_middle : FnScope ["hull"] ["hull"] (defScope s_middle) := ⟨rfl, rfl, rfl, by decide +kernel, rfl, by decide +kernel, by decide +kernel⟩
theorem ok_bow (F : FunG K mg "bow" s_bow ["hull"]) : Ok P w K mg base 1 "bow" ["hull"] spBow := by
  refine F.ok sc_bow (fun vs H Q E h => ?_) (fun f cdv A outer s H vs Q E hr h => ?_)
  · obtain ⟨a, hu, rfl, _⟩ := h
    rfl
  · obtain ⟨a, hu, rfl, hp, k⟩ := h
    refine ⟨_, pss_one (ps_ret (pe_tup (pa_cons (pe_ix ix_tup (pv 0) pe_int (fun _ _ => rfl)) (pa_cons (pe_ix ix_tup (pv 0) pe_int (fun _ _ => rfl)) pa_nil)))), ?_⟩
    refine ⟨_, rfl, a, _, _, _, rfl, rfl, SqT.of hp, rfl, _, rfl, a, _, _, _, rfl, rfl, SqT.of hp, rfl, (by show 2 ≤ sizeLine; decide), fun t ht => ?_⟩
    exact k _ t (Same.new ht) upd_same
theorem ok_stern (F : FunG K mg "stern" s_stern ["hull"]) : Ok P w K mg base 1 "stern" ["hull"] spStern := by
  refine F.ok sc_stern (fun vs H Q E h => ?_) (fun f cdv A outer s H vs Q E hr h => ?_)
  · obtain ⟨a, hu, rfl, _⟩ := h
    rfl
  · obtain ⟨a, hu, rfl, hp, k⟩ := h
    refine ⟨_, pss_one (ps_ret (pe_tup (pa_cons (pe_ix ix_tup (pv 0) pe_int (fun _ _ => rfl)) (pa_cons (pe_ix ix_tup (pv 0) pe_int (fun _ _ => rfl)) pa_nil)))), ?_⟩
    refine ⟨_, rfl, a, _, _, _, rfl, rfl, SqT.of hp, rfl, _, rfl, a, _, _, _, rfl, rfl, SqT.of hp, rfl, (by show 2 ≤ sizeLine; decide), fun t ht => ?_⟩
    exact k _ t (Same.new ht) upd_same
theorem ok_heading (F : FunG K mg "heading" s_heading ["hull"]) (OM : Ok P w K mg base 1 "minus" ["one", "other"] spMinus) (OB : Ok P w K mg base 1 "bow" ["hull"] spBow) (OS : Ok P w K mg base 1 "stern" ["hull"] spStern) : Ok P w K mg base 2 "heading" ["hull"] spHeading := by
  refine F.ok sc_heading (fun vs H Q E h => ?_) (fun f cdv A outer s H vs Q E hr h => ?_)
  · obtain ⟨a, hu, rfl, _⟩ := h
    rfl
  · obtain ⟨a, hu, rfl, hp, k⟩ := h
    refine ⟨_, pss_one (ps_ret (pe_fn OM hr (pa_cons (pe_fn OB hr (pa_cons (pv 0) pa_nil)) (pa_cons (pe_fn OS hr (pa_cons (pv 0) pa_nil)) pa_nil)))), ?_⟩
    exact ⟨_, rfl, a, hu, rfl, hp, fun H1 q1 s1 h1 => ⟨_, rfl, a, hu, rfl, hp.same s1, fun H2 q2 s2 h2 => ⟨q1, q2, _, _, rfl, h1.same s2, h2, fun H3 q3 s3 h3 => k _ q3 (s1.trans (s2.trans s3)) h3⟩⟩⟩
theorem ok_middle (F : FunG K mg "middle" s_middle ["hull"]) (OM : Ok P w K mg base 1 "plus" ["one", "other"] spPlus) (OB : Ok P w K mg base 1 "bow" ["hull"] spBow) (OS : Ok P w K mg base 1 "stern" ["hull"] spStern) : Ok P w K mg base 2 "middle" ["hull"] spMiddle := by
  refine F.ok sc_middle (fun vs H Q E h => ?_) (fun f cdv A outer s H vs Q E hr h => ?_)
  · obtain ⟨a, hu, rfl, _⟩ := h
    rfl
  · obtain ⟨a, hu, rfl, hp, k⟩ := h
    refine ⟨_, pss_one (ps_ret (pe_fn OM hr (pa_cons (pe_fn OB hr (pa_cons (pv 0) pa_nil)) (pa_cons (pe_fn OS hr (pa_cons (pv 0) pa_nil)) pa_nil)))), ?_⟩
    exact ⟨_, rfl, a, hu, rfl, hp, fun H1 q1 s1 h1 => ⟨_, rfl, a, hu, rfl, hp.same s1, fun H2 q2 s2 h2 => ⟨q1, q2, _, _, rfl, h1.same s2, h2, fun H3 q3 s3 h3 => k _ q3 (s1.trans (s2.trans s3)) h3⟩⟩⟩
def spHalf : Sp := fun vs H Q _ => ∃ (a b : Addr) (p q : Rg.Pt), vs = [.ref a, .ref b] ∧ PtAt H p a ∧ PtAt H q b ∧ PtSm p ∧ Q (.bl (Rg.cross p q == 0 && decide (Rg.dot p q < 0))) H
theorem sc_half : FnScope ["before", "after"] ["before", "after"] (defScope s_turned_by_half) := ⟨rfl, rfl, rfl, by decide +kernel, rfl, by decide +kernel, by decide +kernel⟩
theorem ok_half (F : FunG K mg "turned_by_half" s_turned_by_half ["before", "after"]) (OC : Ok P w K mg base 1 "cross" ["one", "other"] spCross) (OD : Ok P w K mg base 1 "dot" ["one", "other"] spDot) :
    Ok P w K mg base 2 "turned_by_half" ["before", "after"] spHalf := by
  refine F.ok sc_half (fun vs H Q E h => ?_) (fun f cdv A outer s H vs Q E hr h => ?_)
  · obtain ⟨a, b, p, q, rfl, _⟩ := h
    rfl
  · obtain ⟨a, b, p, q, rfl, hp, hq, sp, k⟩ := h
    refine ⟨_, pss_one (ps_ret (pe_and (pe_cmpR op_eq (pe_fn OC hr (pa_cons (pv 0) (pa_cons (pv 1) pa_nil))) pe_int (nomark _)) (pe_one (pe_cmpR op_lt (pe_fn OD hr (pa_cons (pv 0) (pa_cons (pv 1) pa_nil))) pe_int (nomark _))))), ?_⟩
    refine ⟨_, rfl, _, rfl, a, b, p, q, rfl, hp, hq, sp, rfl, _, rfl, ?_⟩
    rw [dec_int]
    cases e : (Rg.cross p q == 0) with
    | true =>
      rw [if_pos rfl]
      rw [e, Bool.true_and] at k
      exact ⟨_, rfl, _, rfl, a, b, p, q, rfl, hp, hq, sp, _, _, rfl, rfl, k⟩
    | false =>
      rw [if_neg Bool.false_ne_true]
      rw [e, Bool.false_and] at k
      exact k
def tV (b : Bool) : V := .int (if b = true then 1 else 2)
def spTack : Sp := fun vs H Q _ => ∃ (c d : Addr) (t : Bool) (g v : Rg.Pt), vs = [tV t, .ref c, .ref d] ∧ PtAt H g c ∧ PtAt H v d ∧ PtSm g ∧
  Q (tV (if 0 < Rg.cross g v then true else if Rg.cross g v < 0 then false else t)) H
theorem sc_tack : FnScope ["before", "course", "wind", "lean"] ["before", "course", "wind"] (defScope s_tack_after) := ⟨rfl, rfl, rfl, by decide +kernel, rfl, by decide +kernel, by decide +kernel⟩
theorem ok_tack_after (F : FunG K mg "tack_after" s_tack_after ["before", "course", "wind"]) (T : Txt mg) (OC : Ok P w K mg base 1 "cross" ["one", "other"] spCross) :
    Ok P w K mg base 2 "tack_after" ["before", "course", "wind"] spTack := by
  refine F.ok sc_tack (fun vs H Q E h => ?_) (fun f cdv A outer s H vs Q E hr h => ?_)
  · obtain ⟨c, d, t, g, v, rfl, _⟩ := h
    rfl
  · obtain ⟨c, d, t, g, v, rfl, hg, hv, sp, k⟩ := h
    refine ⟨_, pss_cons (ps_set (i := 3) sc_tack.nd rfl (Or.inl rfl) (pe_fn OC hr (pa_cons (pv 1) (pa_cons (pv 2) pa_nil))))
      (pss_cons (ps_if (pt_cmpR op_gt (pv 3) pe_int (nomark _)) (pss_one (ps_ret (pe_gi T.c_STARBOARD))) pss_nil)
      (pss_cons (ps_if (pt_cmpR op_lt (pv 3) pe_int (nomark _)) (pss_one (ps_ret (pe_gi T.c_PORT))) pss_nil)
      (pss_one (ps_ret (pv 0))))), ?_⟩
    refine ⟨_, rfl, _, rfl, c, d, g, v, rfl, hg, hv, sp, ?_⟩
    refine ⟨_, rfl, _, _, rfl, rfl, _, rfl, ?_⟩
    by_cases h1 : 0 < Rg.cross g v
    · rw [decide_eq_true h1]
      rw [if_pos h1] at k
      exact iteT k
    · rw [decide_eq_false h1]
      rw [if_neg h1] at k
      refine iteF ⟨_, rfl, _, _, rfl, rfl, _, rfl, ?_⟩
      by_cases h2 : Rg.cross g v < 0
      · rw [decide_eq_true h2]
        rw [if_pos h2] at k
        exact iteT k
      · rw [decide_eq_false h2]
        rw [if_neg h2] at k
        exact iteF ⟨_, rfl, k⟩
end
end Bl
end
section
set_option maxHeartbeats 2000000
namespace Bl
open PySem PySem.Spec PyProof.Rows L2
def Off (S : List Addr) (H : Hp) : Hp := fun b => if b ∈ S then none else H b
theorem Off.eq {S : List Addr} {H : Hp} {b : Addr} (h : b ∉ S) : Off S H b = H b := if_neg h
theorem Off.inv {S : List Addr} {H : Hp} {b : Addr} {o : HO} (h : Off S H b = some o) : b ∉ S ∧ H b = some o := by
  unfold Off at h
  split at h
  · cases h
  · rename_i q; exact ⟨q, h⟩
theorem Off.mk {S : List Addr} {H : Hp} {b : Addr} {o : HO} (h : H b = some o) (q : b ∉ S) : Off S H b = some o := by rw [Off.eq q]; exact h
theorem Off.sub {S : List Addr} {H : Hp} : Same (Off S H) H := fun _ _ h => (Off.inv h).2
def Keep (M : List Addr) (H H' : Hp) : Prop := ∀ b o, H b = some o → b ∉ M → H' b = some o
theorem Keep.refl {M : List Addr} {H : Hp} : Keep M H H := fun _ _ h _ => h
theorem Keep.trans {M : List Addr} {H H1 H2 : Hp} (a : Keep M H H1) (b : Keep M H1 H2) : Keep M H H2 := fun c o h q => b c o (a c o h q) q
theorem Keep.of {M : List Addr} {H H' : Hp} (s : Same H H') : Keep M H H' := fun b o h _ => s b o h
theorem Keep.upd {M : List Addr} {H H' : Hp} {p : Addr} {o : HO} (s : Keep M H H') (h : p ∈ M) : Keep M H (upd H' p o) := fun b u e q => by
  rw [upd_ne (fun z => q (by rw [z]; exact h))]
  exact s b u e q
theorem _root_.L2.Same.off {S : List Addr} {H H' : Hp} (s : Same H H') : Same (Off S H) (Off S H') := fun b o h => by
  obtain ⟨h1, h2⟩ := Off.inv h
  exact Off.mk (s b o h2) h1
theorem Off.upd {S : List Addr} {H : Hp} {a : Addr} {o : HO} (h : a ∈ S) : Off S (L2.upd H a o) = Off S H := by
  funext b
  unfold Off
  by_cases hb : b ∈ S
  · rw [if_pos hb, if_pos hb]
  · rw [if_neg hb, if_neg hb, upd_ne (fun z => hb (by rw [z]; exact h))]
def logF (aw : Addr) (n : Nat) (an ad am : Addr) : List (Str × V) := [("written", .ref aw), ("lines", .int n), ("names", .ref an), ("winds", .ref ad), ("moments", .ref am)]
def momF (ah aw at_ : Addr) : List (Str × V) := [("hulls", .ref ah), ("wind", .ref aw), ("tacks", .ref at_)]
abbrev MomT := (Rg.Pt × List Rg.Hull) × List Bool
structure MomAt (CM : Addr) (G : Hp) (m : MomT) (a : Addr) : Prop where
  ex : ∃ dx ah aw at_, G a = some (.ins CM dx (momF ah aw at_)) ∧ HullsAt G m.1.2 ah ∧ PtAt G m.1.1 aw ∧ G at_ = some (.lst (m.2.map tV))
theorem MomAt.same {CM : Addr} {G G' : Hp} {m : MomT} {a : Addr} (s : Same G G') (h : MomAt CM G m a) : MomAt CM G' m a := by
  obtain ⟨dx, ah, aw, at_, h1, h2, h3, h4⟩ := h.ex
  exact ⟨dx, ah, aw, at_, s _ _ h1, h2.same s, h3.same s, s _ _ h4⟩
def momsOf (l : Rg.Log) : List MomT := (Rg.moments l).zip (tacksOf l)
structure LogAt (CL CM : Addr) (S : List Addr) (H : Hp) (p : Addr) (M : List Addr) (wr : Rg.Bytes) (n : Nat) (l : Rg.Log) : Prop where
  ex : ∃ dx aw an ad am, M = [p, aw, an, ad, am] ∧ H p = some (.ins CL dx (logF aw n an ad am)) ∧ BytesAt H wr aw ∧
    RefsAt H (BytesAt (Off (M ++ S) H)) (Rg.boats l) an ∧ RefsAt H (PtAt (Off (M ++ S) H)) (Rg.winds l) ad ∧ RefsAt H (MomAt CM (Off (M ++ S) H)) (momsOf l) am
  nd : M.Nodup
  ns : ∀ b ∈ M, b ∉ S
  live : ∀ b ∈ S, ∃ o, H b = some o
theorem LogAt.same {CL CM : Addr} {S : List Addr} {H H' : Hp} {p : Addr} {M : List Addr} {wr : Rg.Bytes} {n : Nat} {l : Rg.Log} (s : Same H H') (h : LogAt CL CM S H p M wr n l) : LogAt CL CM S H' p M wr n l := by
  obtain ⟨dx, aw, an, ad, am, e, h1, h2, h3, h4, h5⟩ := h.ex
  have so : Same (Off (M ++ S) H) (Off (M ++ S) H') := s.off
  refine ⟨⟨dx, aw, an, ad, am, e, s _ _ h1, h2.same s, h3.same s (fun _ _ => BytesAt.same so), h4.same s (fun _ _ => PtAt.same so), h5.same s (fun _ _ => MomAt.same so)⟩, h.nd, h.ns, fun b hb => ?_⟩
  obtain ⟨o, ho⟩ := h.live b hb
  exact ⟨o, s _ _ ho⟩
theorem LogAt.liveM {CL CM : Addr} {S : List Addr} {H : Hp} {p : Addr} {M : List Addr} {wr : Rg.Bytes} {n : Nat} {l : Rg.Log} (h : LogAt CL CM S H p M wr n l) : ∀ b ∈ M ++ S, ∃ o, H b = some o := by
  intro b hb
  rcases List.mem_append.mp hb with hb | hb
  · obtain ⟨dx, aw, an, ad, am, e, h1, h2, ⟨_, h3, _⟩, ⟨_, h4, _⟩, ⟨_, h5, _⟩⟩ := h.ex
    rw [e] at hb
    rcases List.mem_cons.mp hb with rfl | hb
    · exact ⟨_, h1⟩
    rcases List.mem_cons.mp hb with rfl | hb
    · exact ⟨_, h2⟩
    rcases List.mem_cons.mp hb with rfl | hb
    · exact ⟨_, h3⟩
    rcases List.mem_cons.mp hb with rfl | hb
    · exact ⟨_, h4⟩
    rcases List.mem_cons.mp hb with rfl | hb
    · exact ⟨_, h5⟩
    cases hb
  · exact h.live b hb
theorem LogAt.fresh {CL CM : Addr} {S : List Addr} {H : Hp} {p : Addr} {M : List Addr} {wr : Rg.Bytes} {n : Nat} {l : Rg.Log} (h : LogAt CL CM S H p M wr n l) {q : Addr} (hq : H q = none) : q ∉ M ++ S := fun z => by
  obtain ⟨o, ho⟩ := h.liveM q z
  rw [hq] at ho
  cases ho
end Bl
end
section
set_option maxHeartbeats 2000000
namespace Bl
open PySem PySem.Spec PyProof.Rows L2
theorem tYes_ite {σ : L2.St} {H : Hp} {A B : Hp → Prop} (h : A H) : tYes σ H fun b H3 => if b = true then A H3 else B H3 := by
  show (if true = true then A H else B H)
  rw [if_pos rfl]
  exact h
abbrev LcStep (te : TE) (H1 : Hp) (D : Addr) (σ2 : L2.St) (R : V → Hp → Prop) : Prop := ∀ (H : Hp) (Q : VK), Same H1 H → (∃ acc, H D = some (.lst acc)) → (∀ y H4, Same H H4 → R y (Off [D] H4) → Q y H4) → te σ2 H Q
structure LcInv (H1 : Hp) (D : Addr) (R : Nat → V → Hp → Prop) (i : Nat) (H : Hp) : Prop where
  ex : ∃ ys : List V, H D = some (.lst ys) ∧ ys.length = i ∧ ∀ k y, ys[k]? = some y → R k y (Off [D] H)
  same : Same H1 H
theorem LcInv.zero {H1 : Hp} {D : Addr} {R : Nat → V → Hp → Prop} (h : H1 D = none) : LcInv H1 D R 0 (upd H1 D (.lst [])) := ⟨⟨[], upd_same, rfl, fun k y e => by simp at e⟩, Same.new h⟩
theorem LcInv.next {H1 H H4 : Hp} {D : Addr} {R : Nat → V → Hp → Prop} {i : Nat} {y : V} (Rm : ∀ i y G G', Same G G' → R i y G → R i y G') (hD : H1 D = none) (h : LcInv H1 D R i H) (s : Same H H4) (r : R i y (Off [D] H4)) (hi : i < 10000000) :
    ∃ acc, H4 D = some (.lst acc) ∧ acc.length < sizeLine ∧ LcInv H1 D R (i + 1) (upd H4 D (.lst (acc ++ [y]))) := by
  obtain ⟨⟨ys, h1, h2, h3⟩, h4⟩ := h
  have so : Same (Off [D] H4) (Off [D] (upd H4 D (.lst (ys ++ [y])))) := fun b o e => by
    obtain ⟨e1, e2⟩ := Off.inv e
    refine Off.mk ?_ e1
    rw [upd_ne (fun z => e1 (by rw [z]; exact List.mem_cons_self))]
    exact e2
  refine ⟨ys, s _ _ h1, by rw [h2]; exact line_lt (by omega), ⟨ys ++ [y], upd_same, by rw [List.length_append, h2]; rfl, fun k z e => ?_⟩, fun b o e => ?_⟩
  · by_cases hk : k < ys.length
    · rw [List.getElem?_append_left hk] at e
      exact Rm _ _ _ _ ((Same.off s).trans so) (h3 k z e)
    · rw [List.getElem?_append_right (by omega)] at e
      have : k - ys.length = 0 := by
        cases q : k - ys.length with
        | zero => rfl
        | succ n => rw [q] at e; simp at e
      rw [this] at e
      have e' : y = z := by simpa using e
      subst e'
      have hk' : k = i := by omega
      subst hk'
      exact Rm _ _ _ _ so r
  · rw [upd_ne (ne_of_none e hD)]
    exact s _ _ (h4 _ _ e)
theorem LcInv.eq {H1 H : Hp} {D : Addr} {R : Nat → V → Hp → Prop} {n : Nat} (h : LcInv H1 D R n H) {zs : List V} (hl : zs.length = n) (hz : ∀ k y, k < n → R k y (Off [D] H) → zs[k]? = some y) : H D = some (.lst zs) := by
  obtain ⟨⟨ys, h1, h2, h3⟩, h4⟩ := h
  have e : ys = zs := by
    apply List.ext_getElem?
    intro k
    by_cases hk : k < n
    · rw [List.getElem?_eq_getElem (show k < ys.length by omega)]
      exact (hz k _ hk (h3 k _ (List.getElem?_eq_getElem (show k < ys.length by omega)))).symm
    · rw [List.getElem?_eq_none_iff.mpr (by omega), List.getElem?_eq_none_iff.mpr (by omega)]
  rw [h1, e]
theorem lc_map {K : PySem.W.Frag} {a : Addr} {xs : List V} {te : TE} {vs : List Nat} {j : Nat} {σ : L2.St} {H1 : Hp} {D : Addr} {Qd : Hp → Prop} (R : Nat → V → Hp → Prop) (Rm : ∀ i y G G', Same G G' → R i y G → R i y G') (hD : H1 D = none) (ha : H1 a = some (.lst xs))
    (hn : xs.length ≤ 10000000) (hw : ∀ v, wipe ((wipe σ vs).set j v) vs = wipe σ vs) (step : ∀ i x, xs[i]? = some x → LcStep te H1 D ((wipe σ vs).set j (some x)) (R i)) (hd : ∀ H, LcInv H1 D R xs.length H → Qd H) :
    ∃ W : Nat → Nat → Hp → Prop, (∃ m, W 0 m (upd H1 D (.lst []))) ∧ ∀ i m H, W i m H →
      ((Itl K a).stop i H ∧ Qd H) ∨ ((Itl K a).go i H ∧ ∃ Nx : Hp → Prop, (∀ H', Nx H' → ∃ m', m' < m ∧ W (i + 1) m' H') ∧ ∀ x H', (Itl K a).yld i H x H' → gName j x (wipe σ vs) H' fun σ2 H2 => wipe σ2 vs = wipe σ vs ∧ tYes σ2 H2 fun b H3 =>
        if b = true then te σ2 H3 fun y H4 => ∃ acc, H4 D = some (.lst acc) ∧ acc.length < sizeLine ∧ Nx (upd H4 D (.lst (acc ++ [y]))) else Nx H3) :=
  lc_list (K := K) (a := a) (xs := xs) (LcInv H1 D R) (LcInv.zero hD) (fun i H _ h => SqL.of (h.same _ _ ha)) (fun i x H hx h => by
    refine ⟨hw _, ?_⟩
    apply tYes_ite
    exact step i x hx H _ h.same (let ⟨ys, e, _⟩ := h.ex; ⟨ys, e⟩) fun y H4 s r => h.next Rm hD s r (by have := (List.getElem?_eq_some_iff.mp hx).1; omega)) hd
theorem lc_rangeC {lo c : Int} {n : Nat} {te : TE} {vs : List Nat} {j : Nat} {σ : L2.St} {H1 : Hp} {D : Addr} {Qd : Hp → Prop} (R : Nat → V → Hp → Prop) (Rm : ∀ i y G G', Same G G' → R i y G → R i y G') (hD : H1 D = none)
    (hn : n ≤ 10000000) (hw : ∀ v, wipe ((wipe σ vs).set j v) vs = wipe σ vs) (step : ∀ i, i < n → LcStep te H1 D ((wipe σ vs).set j (some (.int (lo + (i : Nat) * c)))) (R i)) (hd : ∀ H, LcInv H1 D R n H → Qd H) :
    ∃ W : Nat → Nat → Hp → Prop, (∃ m, W 0 m (upd H1 D (.lst []))) ∧ ∀ i m H, W i m H →
      ((Itc lo c n).stop i H ∧ Qd H) ∨ ((Itc lo c n).go i H ∧ ∃ Nx : Hp → Prop, (∀ H', Nx H' → ∃ m', m' < m ∧ W (i + 1) m' H') ∧ ∀ x H', (Itc lo c n).yld i H x H' → gName j x (wipe σ vs) H' fun σ2 H2 => wipe σ2 vs = wipe σ vs ∧ tYes σ2 H2 fun b H3 =>
        if b = true then te σ2 H3 fun y H4 => ∃ acc, H4 D = some (.lst acc) ∧ acc.length < sizeLine ∧ Nx (upd H4 D (.lst (acc ++ [y]))) else Nx H3) := by
  refine ⟨fun i m H => m = n - i ∧ i ≤ n ∧ LcInv H1 D R i H, ⟨n, by simp, Nat.zero_le _, LcInv.zero hD⟩, ?_⟩
  rintro i m H ⟨rfl, hi, p⟩
  by_cases hlt : i < n
  · refine .inr ⟨hlt, LcInv H1 D R (i + 1), fun H' p' => ⟨n - (i + 1), by omega, rfl, hlt, p'⟩, fun x H' y => ?_⟩
    obtain ⟨e, y⟩ := y
    subst e y
    refine ⟨hw _, ?_⟩
    apply tYes_ite
    exact step i hlt _ _ p.same (let ⟨ys, e, _⟩ := p.ex; ⟨ys, e⟩) fun y H4 s r => p.next Rm hD s r (by omega)
  · have e : i = n := by omega
    subst e
    exact .inl ⟨Nat.le_refl _, hd H p⟩
theorem lc_str {z : Str} {te : TE} {vs : List Nat} {j : Nat} {σ : L2.St} {H1 : Hp} {D : Addr} {Qd : Hp → Prop} (R : Nat → V → Hp → Prop) (Rm : ∀ i y G G', Same G G' → R i y G → R i y G') (hD : H1 D = none)
    (hn : z.cps.size ≤ 10000000) (hw : ∀ v, wipe ((wipe σ vs).set j v) vs = wipe σ vs) (step : ∀ i c, z.cps[i]? = some c → LcStep te H1 D ((wipe σ vs).set j (some (.str ⟨#[c]⟩))) (R i)) (hd : ∀ H, LcInv H1 D R z.cps.size H → Qd H) :
    ∃ W : Nat → Nat → Hp → Prop, (∃ m, W 0 m (upd H1 D (.lst []))) ∧ ∀ i m H, W i m H →
      ((Its z).stop i H ∧ Qd H) ∨ ((Its z).go i H ∧ ∃ Nx : Hp → Prop, (∀ H', Nx H' → ∃ m', m' < m ∧ W (i + 1) m' H') ∧ ∀ x H', (Its z).yld i H x H' → gName j x (wipe σ vs) H' fun σ2 H2 => wipe σ2 vs = wipe σ vs ∧ tYes σ2 H2 fun b H3 =>
        if b = true then te σ2 H3 fun y H4 => ∃ acc, H4 D = some (.lst acc) ∧ acc.length < sizeLine ∧ Nx (upd H4 D (.lst (acc ++ [y]))) else Nx H3) := by
  refine ⟨fun i m H => m = z.cps.size - i ∧ i ≤ z.cps.size ∧ LcInv H1 D R i H, ⟨z.cps.size, by simp, Nat.zero_le _, LcInv.zero hD⟩, ?_⟩
  rintro i m H ⟨rfl, hi, p⟩
  by_cases hlt : i < z.cps.size
  · refine .inr ⟨hlt, LcInv H1 D R (i + 1), fun H' p' => ⟨z.cps.size - (i + 1), by omega, rfl, hlt, p'⟩, fun x H' y => ?_⟩
    obtain ⟨e, c, hc, y⟩ := y
    subst e y
    refine ⟨hw _, ?_⟩
    apply tYes_ite
    exact step i c hc _ _ p.same (let ⟨ys, e, _⟩ := p.ex; ⟨ys, e⟩) fun y H4 s r => p.next Rm hD s r (by omega)
  · have e : i = z.cps.size := by omega
    subst e
    exact .inl ⟨Nat.le_refl _, hd H p⟩
theorem lc_zip {K : PySem.W.Frag} {a b : Addr} {xs zs : List V} {te : TE} {vs : List Nat} {j j2 : Nat} {σ : L2.St} {H1 : Hp} {D : Addr} {Qd : Hp → Prop} (R : Nat → V → Hp → Prop) (Rm : ∀ i y G G', Same G G' → R i y G → R i y G') (hD : H1 D = none) (ha : H1 a = some (.lst xs))
    (hb : H1 b = some (.lst zs)) (hl : xs.length = zs.length) (hn : xs.length ≤ 10000000) (hw : ∀ v u, wipe (((wipe σ vs).set j v).set j2 u) vs = wipe σ vs)
    (step : ∀ i x z, xs[i]? = some x → zs[i]? = some z → LcStep te H1 D (((wipe σ vs).set j (some x)).set j2 (some z)) (R i)) (hd : ∀ H, LcInv H1 D R xs.length H → Qd H) :
    ∃ W : Nat → Nat → Hp → Prop, (∃ m, W 0 m (upd H1 D (.lst []))) ∧ ∀ i m H, W i m H →
      ((Itz K a b).stop i H ∧ Qd H) ∨ ((Itz K a b).go i H ∧ ∃ Nx : Hp → Prop, (∀ H', Nx H' → ∃ m', m' < m ∧ W (i + 1) m' H') ∧ ∀ x H', (Itz K a b).yld i H x H' → gTup K 2 (gCons (gName j) (gCons (gName j2) gNil)) x (wipe σ vs) H' fun σ2 H2 => wipe σ2 vs = wipe σ vs ∧ tYes σ2 H2 fun b H3 =>
        if b = true then te σ2 H3 fun y H4 => ∃ acc, H4 D = some (.lst acc) ∧ acc.length < sizeLine ∧ Nx (upd H4 D (.lst (acc ++ [y]))) else Nx H3) := by
  refine ⟨fun i m H => m = xs.length - i ∧ i ≤ xs.length ∧ LcInv H1 D R i H, ⟨xs.length, by simp, Nat.zero_le _, LcInv.zero hD⟩, ?_⟩
  rintro i m H ⟨rfl, hi, p⟩
  have q1 : SqL K H a xs := SqL.of (p.same _ _ ha)
  have q2 : SqL K H b zs := SqL.of (p.same _ _ hb)
  by_cases hlt : i < xs.length
  · have hlt2 : i < zs.length := by omega
    refine .inr ⟨⟨xs, zs, xs[i], zs[i], q1, q2, by simp [hlt], by simp [hlt2]⟩, LcInv H1 D R (i + 1), fun H' p' => ⟨xs.length - (i + 1), by omega, rfl, hlt, p'⟩, fun x H' y => ?_⟩
    obtain ⟨T, x1, z1, rfl, hT, rfl, e1, e2⟩ := y
    have hx := e1 xs q1
    have hz := e2 zs q2
    have p' : LcInv H1 D R i (upd H T (.tup [x1, z1])) := by
      obtain ⟨⟨ys, h1, h2, h3⟩, h4⟩ := p
      have nT : Same H (upd H T (.tup [x1, z1])) := Same.new hT
      exact ⟨⟨ys, nT _ _ h1, h2, fun k y e => Rm _ _ _ _ (Same.off nT) (h3 k y e)⟩, h4.trans nT⟩
    refine ⟨T, _, rfl, SqT.of upd_same, rfl, x1, _, rfl, z1, _, rfl, rfl, hw _ _, ?_⟩
    apply tYes_ite
    exact step i x1 z1 hx hz _ _ p'.same (let ⟨ys, e, _⟩ := p'.ex; ⟨ys, e⟩) fun y H4 s r => p'.next Rm hD s r (by omega)
  · have e : i = xs.length := by omega
    subst e
    exact .inl ⟨⟨xs, zs, q1, q2, .inl (Nat.le_refl _)⟩, hd H p⟩
theorem for_zip {K : PySem.W.Frag} {a b : Addr} {xs zs : List V} {g : TG} {tb : TS} {D : Ends} {σ : L2.St} {H : Hp} (Pv : Nat → L2.St → Hp → Prop) (h0 : Pv 0 σ H) (hlen : xs.length = zs.length) (hl : ∀ i σ H, i ≤ xs.length → Pv i σ H → SqL K H a xs ∧ SqL K H b zs)
    (hs : ∀ i x z T σ H, xs[i]? = some x → zs[i]? = some z → H T = none → Pv i σ H → g (.ref T) σ (upd H T (.tup [x, z])) fun σ2 H2 => tb { D with nx := Pv (i + 1), ct := Pv (i + 1), bk := D.nx } σ2 H2) (hd : ∀ σ H, Pv xs.length σ H → D.nx σ H) :
    ∃ W : Nat → Nat → L2.St → Hp → Prop, (∃ m, W 0 m σ H) ∧ ∀ i m σ H, W i m σ H →
      ((Itz K a b).stop i H ∧ D.nx σ H) ∨ ((Itz K a b).go i H ∧ ∃ N : L2.St → Hp → Prop, (∀ σ' H', N σ' H' → ∃ m', m' < m ∧ W (i + 1) m' σ' H') ∧ ∀ x H', (Itz K a b).yld i H x H' → g x σ H' fun σ2 H2 => tb { D with nx := N, ct := N, bk := D.nx } σ2 H2) := by
  refine ⟨fun i m σ H => m = xs.length - i ∧ i ≤ xs.length ∧ Pv i σ H, ⟨xs.length, by simp, Nat.zero_le _, h0⟩, ?_⟩
  rintro i m σ H ⟨rfl, hi, p⟩
  obtain ⟨q1, q2⟩ := hl i σ H hi p
  by_cases hlt : i < xs.length
  · have hlt2 : i < zs.length := by omega
    refine .inr ⟨⟨xs, zs, xs[i], zs[i], q1, q2, by simp [hlt], by simp [hlt2]⟩, Pv (i + 1), fun σ' H' p' => ⟨xs.length - (i + 1), by omega, rfl, hlt, p'⟩, fun x H' y => ?_⟩
    obtain ⟨T, x1, z1, rfl, hT, rfl, e1, e2⟩ := y
    exact hs i x1 z1 T σ H (e1 xs q1) (e2 zs q2) hT p
  · have e : i = xs.length := by omega
    subst e
    exact .inl ⟨⟨xs, zs, q1, q2, .inl (Nat.le_refl _)⟩, hd σ H p⟩
end Bl
end
section
set_option maxHeartbeats 2000000
namespace Bl
open PySem PySem.Spec PyProof.Rows L2
section
variable {K : PySem.W.Frag} {H : Hp}
theorem dp_ints : ∀ ns : List Int, DpAll K H (ns.map V.int) (ns.map PyData.int)
  | [] => .nil
  | n :: r => .cons (.int n) (dp_ints r)
theorem canLay_ints : ∀ ns : List Int, PyData.canLayAll0 (ns.map PyData.int) = true
  | [] => by simp [PyData.canLayAll0]
  | n :: r => by simp [PyData.canLayAll0, PyData.canLay0, canLay_ints r]
theorem depth_ints : ∀ ns : List Int, PyData.depthAll (ns.map PyData.int) = 0
  | [] => by simp [PyData.depthAll]
  | n :: r => by simp [PyData.depthAll, PyData.depth, depth_ints r]
theorem shaped_list (ns : List Int) : SeqAt.shaped (.list (ns.map PyData.int)) = true := by
  unfold SeqAt.shaped
  rw [show PyData.canLay0 (.list (ns.map PyData.int)) = true by simp [PyData.canLay0, canLay_ints], show PyData.depth (.list (ns.map PyData.int)) = 1 by simp [PyData.depth, depth_ints]]
  decide
theorem shaped_tup (ns : List Int) : SeqAt.shaped (.tuple (ns.map PyData.int)) = true := by
  unfold SeqAt.shaped
  rw [show PyData.canLay0 (.tuple (ns.map PyData.int)) = true by simp [PyData.canLay0, canLay_ints], show PyData.depth (.tuple (ns.map PyData.int)) = 1 by simp [PyData.depth, depth_ints]]
  decide
theorem eqv_ints : ∀ ns ms : List Int, PyData.eqvAll (ns.map PyData.int) (ms.map PyData.int) = decide (ns = ms)
  | [], [] => by simp [PyData.eqvAll]
  | [], m :: ms => by simp [PyData.eqvAll]
  | n :: ns, [] => by simp [PyData.eqvAll]
  | n :: ns, m :: ms => by
    simp only [List.map_cons, PyData.eqvAll, PyData.eqv, eqv_ints ns ms]
    rw [Bool.eq_iff_iff]
    simp
theorem eqv_list (ns ms : List Int) : PyData.eqv (.list (ns.map PyData.int)) (.list (ms.map PyData.int)) = decide (ns = ms) := by
  simp only [PyData.eqv, eqv_ints]
theorem eqv_tup (ns ms : List Int) : PyData.eqv (.tuple (ns.map PyData.int)) (.tuple (ms.map PyData.int)) = decide (ns = ms) := by
  simp only [PyData.eqv, eqv_ints]
theorem rEqL {a b : Addr} {ns ms : List Int} {Q : VK} (ha : H a = some (.lst (ns.map V.int))) (hb : H b = some (.lst (ms.map V.int))) (q : Q (.bl (decide (ns = ms))) H) : rEqD K (.ref a) (.ref b) H Q :=
  ⟨_, _, .lst (SqL.of ha) (dp_ints ns), .lst (SqL.of hb) (dp_ints ms), shaped_list _, shaped_list _, by rw [eqv_list]; exact q⟩
theorem rNeL {a b : Addr} {ns ms : List Int} {Q : VK} (ha : H a = some (.lst (ns.map V.int))) (hb : H b = some (.lst (ms.map V.int))) (q : Q (.bl (!decide (ns = ms))) H) : rNeD K (.ref a) (.ref b) H Q :=
  ⟨_, _, .lst (SqL.of ha) (dp_ints ns), .lst (SqL.of hb) (dp_ints ms), shaped_list _, shaped_list _, by rw [eqv_list]; exact q⟩
theorem rEqT {a b : Addr} {ns ms : List Int} {Q : VK} (ha : H a = some (.tup (ns.map V.int))) (hb : H b = some (.tup (ms.map V.int))) (q : Q (.bl (decide (ns = ms))) H) : rEqD K (.ref a) (.ref b) H Q :=
  ⟨_, _, .tup (SqT.of ha) (dp_ints ns), .tup (SqT.of hb) (dp_ints ms), shaped_tup _, shaped_tup _, by rw [eqv_tup]; exact q⟩
end
section
variable {X : Cx}
theorem map_int_inj : ∀ {n m : List Int}, m.map V.int = n.map V.int → m = n
  | [], [], _ => rfl
  | [], _ :: _, h => by cases h
  | _ :: _, [], h => by cases h
  | a :: n, b :: m, h => by
    rw [List.map_cons, List.map_cons] at h
    obtain ⟨h1, h2⟩ := List.cons.inj h
    rw [V.int.inj h1, map_int_inj h2]
theorem vals_refs : ∀ {as : List Addr} {us : List Value}, Vals (as.map V.ref) us → us = as.map Value.ref
  | [], _, h => by cases h; rfl
  | a :: as, _, h => by
    cases h with
    | cons r t =>
      cases r
      rw [vals_refs t]
      rfl
def rInL : R2 := fun x y H Q => ∃ (p : Addr) (as : List Addr) (c : Addr) (n : List Int) (nss : List (List Int)), x = .ref c ∧ y = .ref p ∧ H p = some (.lst (as.map V.ref)) ∧ H c = some (.lst (n.map V.int)) ∧ Paired (fun a m => H a = some (.lst (m.map V.int))) as nss ∧ Q (.bl (nss.any fun m => decide (m = n))) H
def gInL (H : Hp) (n : List Int) (u : Value) : Bool := match u with
  | .ref a => (match H a with | some (.lst xs) => decide (xs = n.map V.int) | _ => false)
  | _ => false
theorem gInL_eq {H : Hp} {n m : List Int} {a : Addr} (h : H a = some (.lst (m.map V.int))) : gInL H n (.ref a) = decide (m = n) := by
  show (match H a with | some (.lst xs) => decide (xs = n.map V.int) | _ => false) = _
  rw [h]
  show decide (m.map V.int = n.map V.int) = _
  rw [Bool.eq_iff_iff, decide_eq_true_iff, decide_eq_true_iff]
  exact ⟨fun e => map_int_inj e, fun e => by rw [e]⟩
theorem op_inL (hu : X.A.units + 65 < cLine) : OpR X (compareOp .In) rInL := by
  intro pins s σ H x y v u Q I rx ry h
  obtain ⟨p, as, c, n, nss, rfl, rfl, hp, hc, hn, q⟩ := h
  cases rx
  cases ry
  obtain ⟨its, r, pl, hz⟩ := I.list (SqL.of hp)
  have e := vals_refs r
  subst e
  obtain ⟨bs, hb⟩ := Dp.reads I (.list (n.map PyData.int)) (.ref c) (.ref c) (.lst (SqL.of hc) (dp_ints n)) rfl
  have each : ∀ u ∈ as.map Value.ref, SeqAt.EqAt X.A.in1 s u (.ref c) (gInL H n u) := by
    intro u hu'
    obtain ⟨a, ha, rfl⟩ := List.mem_map.mp hu'
    obtain ⟨i, hi⟩ := List.mem_iff_getElem?.mp ha
    obtain ⟨m, _, hm⟩ := paired_getL hn hi
    rw [gInL_eq hm]
    obtain ⟨cs, hr⟩ := Dp.reads I (.list (m.map PyData.int)) (.ref a) (.ref a) (.lst (SqL.of hm) (dp_ints m)) rfl
    intro prog w E Q' hQ
    exact SeqAt.eqBoolOverData prog w X.A.in1 E s _ _ _ _ cs bs Q' hr hb (SeqAt.canLay_of_shaped (shaped_list m)) (SeqAt.canLay_of_shaped (shaped_list n)) (SeqAt.room_of_shaped (shaped_list m) (by show X.A.units + 1 + 64 < cLine; omega)) (by rw [eqv_list]; exact hQ)
  refine SeqAt.in_listAt (gInL H n) pl.isList (fun w hw => each w (by simpa using hw)) ⟨.bl _, H, I, rfl, ?_⟩
  have e2 : (as.map Value.ref).toArray.any (gInL H n) = nss.any fun m => decide (m = n) := by
    rw [show (as.map Value.ref).toArray.any (gInL H n) = (as.map Value.ref).any (gInL H n) by simp]
    clear each r pl hz hp q
    induction hn with
    | nil => rfl
    | cons r t ih =>
      rw [List.map_cons, List.any_cons, List.any_cons, gInL_eq r, ih]
  rw [e2]
  exact q
def rInT : R2 := fun x y H Q => ∃ (p : Addr) (as : List Addr) (c : Addr) (n : List Int) (nss : List (List Int)), x = .ref c ∧ y = .ref p ∧ H p = some (.lst (as.map V.ref)) ∧ H c = some (.tup (n.map V.int)) ∧ Paired (fun a m => H a = some (.tup (m.map V.int))) as nss ∧ Q (.bl (nss.any fun m => decide (m = n))) H
def gInT (H : Hp) (n : List Int) (u : Value) : Bool := match u with
  | .ref a => (match H a with | some (.tup xs) => decide (xs = n.map V.int) | _ => false)
  | _ => false
theorem gInT_eq {H : Hp} {n m : List Int} {a : Addr} (h : H a = some (.tup (m.map V.int))) : gInT H n (.ref a) = decide (m = n) := by
  show (match H a with | some (.tup xs) => decide (xs = n.map V.int) | _ => false) = _
  rw [h]
  show decide (m.map V.int = n.map V.int) = _
  rw [Bool.eq_iff_iff, decide_eq_true_iff, decide_eq_true_iff]
  exact ⟨fun e => map_int_inj e, fun e => by rw [e]⟩
theorem op_inT (hu : X.A.units + 65 < cLine) : OpR X (compareOp .In) rInT := by
  intro pins s σ H x y v u Q I rx ry h
  obtain ⟨p, as, c, n, nss, rfl, rfl, hp, hc, hn, q⟩ := h
  cases rx
  cases ry
  obtain ⟨its, r, pl, hz⟩ := I.list (SqL.of hp)
  have e := vals_refs r
  subst e
  obtain ⟨bs, hb⟩ := Dp.reads I (.tuple (n.map PyData.int)) (.ref c) (.ref c) (.tup (SqT.of hc) (dp_ints n)) rfl
  have each : ∀ u ∈ as.map Value.ref, SeqAt.EqAt X.A.in1 s u (.ref c) (gInT H n u) := by
    intro u hu'
    obtain ⟨a, ha, rfl⟩ := List.mem_map.mp hu'
    obtain ⟨i, hi⟩ := List.mem_iff_getElem?.mp ha
    obtain ⟨m, _, hm⟩ := paired_getL hn hi
    rw [gInT_eq hm]
    obtain ⟨cs, hr⟩ := Dp.reads I (.tuple (m.map PyData.int)) (.ref a) (.ref a) (.tup (SqT.of hm) (dp_ints m)) rfl
    intro prog w E Q' hQ
    exact SeqAt.eqBoolOverData prog w X.A.in1 E s _ _ _ _ cs bs Q' hr hb (SeqAt.canLay_of_shaped (shaped_tup m)) (SeqAt.canLay_of_shaped (shaped_tup n)) (SeqAt.room_of_shaped (shaped_tup m) (by show X.A.units + 1 + 64 < cLine; omega)) (by rw [eqv_tup]; exact hQ)
  refine SeqAt.in_listAt (gInT H n) pl.isList (fun w hw => each w (by simpa using hw)) ⟨.bl _, H, I, rfl, ?_⟩
  have e2 : (as.map Value.ref).toArray.any (gInT H n) = nss.any fun m => decide (m = n) := by
    rw [show (as.map Value.ref).toArray.any (gInT H n) = (as.map Value.ref).any (gInT H n) by simp]
    clear each r pl hz hp q
    induction hn with
    | nil => rfl
    | cons r t ih =>
      rw [List.map_cons, List.any_cons, List.any_cons, gInT_eq r, ih]
  rw [e2]
  exact q
end
section
variable {X : Cx} {K : PySem.W.Frag}
theorem sl_listK (h : X.K = K) : SlR X (rSlL K) := by subst h; exact sl_list
theorem pg_tupK {es : List Expr} {k : Nat} {t : TGs} {n : Nat} {pos : Pos} (hK : X.K = K) (hc : X.calm = true) (h : PGs X es t) (hn : (assignEach es X.env).length = n := by rfl) (hst : (assignEach es X.env).findIdx? (·.1) = none := by rfl) : PG X (.Tuple es k pos) (gTup K n t) := by
  subst hK
  exact pg_tup hc h hn hst
theorem ix_listK (h : X.K = K) : IxR X (rIxL K) := by subst h; exact ix_list
theorem call_tupleK (h : X.K = K) : CallR X (.type "tuple") (fun xs H Q => ∃ p ys, xs = [.ref p] ∧ ((SqL K H p ys ∧ ∀ l, H l = none → Q (.ref l) (upd H l (.tup ys))) ∨ (SqT K H p ys ∧ Q (.ref p) H))) := by subst h; exact call_tuple_of
end
theorem cut_take (xs : List V) (n : Nat) : cutV xs none (some (n : Int)) = xs.take n := by
  unfold cutV
  rw [HT.sIx_nat]
  show (xs.drop 0).take (min n xs.length - 0) = _
  rw [List.drop_zero, Nat.sub_zero]
  rcases Nat.le_total n xs.length with h | h
  · rw [Nat.min_eq_left h]
  · rw [Nat.min_eq_right h, List.take_length, List.take_of_length_le h]
theorem cut_drop (xs : List V) (n : Nat) : cutV xs (some (n : Int)) none = xs.drop n := by
  unfold cutV
  rw [HT.sIx_nat]
  show (xs.drop (min n xs.length)).take (xs.length - min n xs.length) = _
  rcases Nat.le_total n xs.length with h | h
  · rw [Nat.min_eq_left h, List.take_of_length_le (by rw [List.length_drop]; exact Nat.le_refl _)]
  · rw [Nat.min_eq_right h, List.drop_length, List.drop_of_length_le h, List.take_nil]
theorem cut_take1 (xs : List V) : cutV xs none (some 1) = xs.take 1 := cut_take xs 1
theorem cut_drop1 (xs : List V) : cutV xs (some 1) none = xs.drop 1 := cut_drop xs 1
theorem cut_mid (xs : List V) (n m : Nat) (h : n ≤ m) (hm : m ≤ xs.length) : cutV xs (some (n : Int)) (some (m : Int)) = (xs.drop n).take (m - n) := by
  unfold cutV
  rw [HT.sIx_nat, HT.sIx_nat, Nat.min_eq_left hm, Nat.min_eq_left (by omega)]
theorem cut_last (xs : List V) : cutV xs none (some (-1)) = xs.dropLast := by
  unfold cutV
  show (xs.drop 0).take ((if (-1 : Int) < 0 then ((-1 : Int) + (xs.length : Int)).toNat else min (-1 : Int).toNat xs.length) - 0) = _
  rw [if_pos (by decide), List.drop_zero, List.dropLast_eq_take]
  congr 1
  omega
theorem cut_tail1 (xs : List V) : cutV xs (some (-1)) none = xs.drop (xs.length - 1) := by
  unfold cutV
  show (xs.drop (if (-1 : Int) < 0 then ((-1 : Int) + (xs.length : Int)).toNat else min (-1 : Int).toNat xs.length)).take (xs.length - (if (-1 : Int) < 0 then ((-1 : Int) + (xs.length : Int)).toNat else min (-1 : Int).toNat xs.length)) = _
  rw [if_pos (by decide), show ((-1 : Int) + (xs.length : Int)).toNat = xs.length - 1 by omega, List.take_of_length_le (by rw [List.length_drop]; exact Nat.le_refl _)]
end Bl
end
section
set_option maxHeartbeats 2000000
namespace Bl
open PySem PySem.Spec PyProof.Rows L2
def spCut : Sp := fun vs H Q _ => ∃ (a : Addr) (b : Rg.Bytes) (x : UInt8), vs = [.ref a, bV x] ∧ BytesAt H b a ∧ b.length ≤ 100000 ∧ ∀ (H' : Hp) (q : Addr), Same H H' → WordsAt (New H H') (Rg.cutAt x b) q → Q (.ref q) H'
def headOn (cur : Rg.Bytes) : List Rg.Bytes → List Rg.Bytes
  | [] => [cur]
  | l :: m => (cur ++ l) :: m
theorem headOn_mark (x : UInt8) (cur r : Rg.Bytes) : headOn cur (Rg.cutAt x (x :: r)) = cur :: headOn [] (Rg.cutAt x r) := by
  rw [cutAt_mark]
  show (cur ++ []) :: Rg.cutAt x r = _
  rw [List.append_nil]
  obtain ⟨l, m, e⟩ := cutAt_head x r
  rw [e]
  rfl
theorem headOn_other {x c : UInt8} (h : c ≠ x) (cur r : Rg.Bytes) : headOn cur (Rg.cutAt x (c :: r)) = headOn (cur ++ [c]) (Rg.cutAt x r) := by
  obtain ⟨l, m, e⟩ := cutAt_head x r
  rw [cutAt_other r h e, e]
  show (cur ++ c :: l) :: m = ((cur ++ [c]) ++ l) :: m
  rw [List.append_assoc]
  rfl
theorem headOn_nil (x : UInt8) (b : Rg.Bytes) : headOn [] (Rg.cutAt x b) = Rg.cutAt x b := by
  obtain ⟨l, m, e⟩ := cutAt_head x b
  rw [e]
  rfl
section
variable {P : Program} {w : World} {K : PySem.W.Frag} {mg : Str → Option Value} {base : Heap}
theorem sc_cut : FnScope ["signs", "mark", "stretches", "stretch", "sign"] ["signs", "mark"] (defScope s_cut) := ⟨rfl, rfl, rfl, by decide +kernel, rfl, by decide +kernel, by decide +kernel⟩
theorem ok_cut (F : FunG K mg "cut" s_cut ["signs", "mark"]) : Ok P w K mg base 1 "cut" ["signs", "mark"] spCut := by
  refine F.ok sc_cut (fun vs H Q E h => ?_) (fun f cdv A outer s H vs Q E hr h => ?_)
  · obtain ⟨a, b, x, rfl, _⟩ := h
    rfl
  · obtain ⟨a, b, x, rfl, hb, hlen, k⟩ := h
    refine ⟨_, pss_cons (ps_set (i := 2) sc_cut.nd rfl (Or.inl rfl) (pe_lst pa_nil))
      (pss_cons (ps_set (i := 3) sc_cut.nd rfl (Or.inl rfl) (pe_lst pa_nil))
      (pss_cons (ps_for PassesOwn.never rfl (pi_list (pv 0)) (pg_name (i := 4) sc_cut.nd rfl (Or.inl rfl))
        (pss_one (ps_if (pt_cmpR op_eq (pv 4) (pv 1) (nomark _))
          (pss_cons (ps_expr (pe_app (pv 2) (pv 3))) (pss_one (ps_set (i := 3) sc_cut.nd rfl (Or.inl rfl) (pe_lst pa_nil))))
          (pss_one (ps_expr (pe_app (pv 3) (pv 4)))))))
      (pss_cons (ps_expr (pe_app (pv 2) (pv 3)))
      (pss_one (ps_ret (pv 2)))))), ?_⟩
    refine ⟨Nat.zero_le _, fun ls hls => ⟨Nat.zero_le _, fun lc0 hlc0 => ?_⟩⟩
    have n1 : ls ≠ lc0 := ne_of_none upd_same hlc0
    have n2 : H lc0 = none := by rw [upd_ne (Ne.symm n1)] at hlc0; exact hlc0
    refine ⟨_, rfl, a, rfl, ⟨_, SqL.of (((Same.new hls).trans (Same.new hlc0)) _ _ hb)⟩, for_list (K := K) (a := a) (xs := b.map bV)
      (fun i σ H' => ∃ (v : Option V) (lc : Addr) (as : List Addr) (done : List Rg.Bytes) (cur : Rg.Bytes), σ = [some (.ref a), some (bV x), some (.ref ls), some (.ref lc), v] ∧ Same H H' ∧ H' ls = some (.lst (as.map V.ref)) ∧ BytesAt H' cur lc ∧
        Paired (fun a y => BytesAt H' y a) as done ∧ ls ≠ lc ∧ ls ∉ as ∧ lc ∉ as ∧ H lc = none ∧ (∀ z ∈ as, H z = none) ∧ as.length + cur.length ≤ i ∧ Rg.cutAt x b = done ++ headOn cur (Rg.cutAt x (b.drop i)))
      ⟨none, lc0, [], [], [], rfl, (Same.new hls).trans (Same.new hlc0), by rw [upd_ne n1]; exact upd_same, upd_same, .nil, n1, by simp, by simp, n2, (fun z hz => by cases hz), Nat.le_refl _, by rw [List.drop_zero, headOn_nil]; rfl⟩
      (fun i σ H' _ ⟨_, _, _, _, _, _, s5, _⟩ => SqL.of (s5 _ _ hb)) ?_ ?_⟩
    · rintro i y σ H' hi ⟨v, lc, as, done, cur, rfl, s5, h1, h2, h3, n3, n4, n5, n6, n7, hl, hc⟩
      obtain ⟨c, hc0, rfl⟩ : ∃ c, b[i]? = some c ∧ y = bV c := by
        rw [List.getElem?_map] at hi
        cases e : b[i]? with
        | none => rw [e] at hi; cases hi
        | some z => rw [e] at hi; exact ⟨z, rfl, (Option.some.inj hi).symm⟩
      have hib : i < b.length := (List.getElem?_eq_some_iff.mp hc0).1
      have hd : b.drop i = c :: b.drop (i + 1) := by
        rw [List.drop_eq_getElem_cons hib]
        congr 1
        exact (List.getElem?_eq_some_iff.mp hc0).2
      refine ⟨_, rfl, _, rfl, rfl, _, rfl, ite2 (fun q => ?_) (fun q => ?_)⟩
      · have e : c = x := bV_inj.mp (of_decide_eq_true q)
        subst e
        refine ⟨_, rfl, .inl ⟨rfl, _, SqL.of h1⟩, _, rfl, ls, _, _, rfl, rfl, h1, (by rw [List.length_map]; exact line_lt (by omega)), ?_⟩
        refine ⟨Nat.zero_le _, fun lc' hlc' => ?_⟩
        have m1 : ls ≠ lc' := ne_of_none upd_same hlc'
        have m2 : H' lc' = none := by rw [upd_ne (Ne.symm m1)] at hlc'; exact hlc'
        have m3 : lc ≠ lc' := ne_of_none h2 m2
        have m4 : H ls = none := hls
        refine ⟨_, lc', as ++ [lc], done ++ [cur], [], rfl, (s5.upd m4).trans (Same.new hlc'), ?_, upd_same, ?_, m1, ?_, ?_, ?_, ?_, ?_, ?_⟩
        · rw [upd_ne m1, upd_same, List.map_append]
          rfl
        · refine (paired_mem h3 fun z hz y hy => ?_).snoc ?_
          · show upd _ _ _ _ = _
            rw [upd_ne (ne_of_none hy m2), upd_ne (fun q => n4 (by rw [← q]; exact hz))]
            exact hy
          · show upd _ _ _ _ = _
            rw [upd_ne m3, upd_ne (Ne.symm n3)]
            exact h2
        · intro z
          rcases List.mem_append.mp z with z | z
          · exact n4 z
          · exact n3 (List.mem_singleton.mp z)
        · intro z
          rcases List.mem_append.mp z with z | z
          · obtain ⟨i', hi'⟩ := List.mem_iff_getElem?.mp z
            obtain ⟨y', _, hy'⟩ := paired_getL h3 hi'
            rw [show H' lc' = _ from hy'] at m2
            cases m2
          · exact m3 (List.mem_singleton.mp z).symm
        · exact s5.free m2
        · intro z hz
          rcases List.mem_append.mp hz with hz | hz
          · exact n7 z hz
          · rw [List.mem_singleton.mp hz]; exact n6
        · rw [List.length_append]
          show _ + 1 + 0 ≤ _
          omega
        · rw [hc, hd, headOn_mark, List.append_assoc]
          rfl
      · have e : c ≠ x := fun z => q (decide_eq_true (bV_inj.mpr z))
        refine ⟨_, rfl, .inl ⟨rfl, _, SqL.of h2⟩, _, rfl, lc, _, _, rfl, rfl, h2, (by rw [List.length_map]; exact line_lt (by omega)), ?_⟩
        refine ⟨_, lc, as, done, cur ++ [c], rfl, s5.upd n6, by rw [upd_ne n3]; exact h1, ?_, ?_, n3, n4, n5, n6, n7, ?_, ?_⟩
        · show upd _ _ _ _ = _
          rw [upd_same, List.map_append]
          rfl
        · refine paired_mem h3 fun z hz y hy => ?_
          show upd _ _ _ _ = _
          rw [upd_ne (fun q => n5 (by rw [← q]; exact hz))]
          exact hy
        · rw [List.length_append]
          show _ + (_ + 1) ≤ _
          omega
        · rw [hc, hd, headOn_other e]
    · rintro σ H' ⟨v, lc, as, done, cur, rfl, s5, h1, h2, h3, n3, n4, n5, n6, n7, hl, hc⟩
      rw [List.length_map] at hl hc
      refine ⟨_, rfl, .inl ⟨rfl, _, SqL.of h1⟩, _, rfl, ls, _, _, rfl, rfl, h1, (by rw [List.length_map]; exact line_lt (by omega)), ?_⟩
      refine ⟨_, rfl, k _ ls (s5.upd hls) ⟨as ++ [lc], New.mk (by rw [upd_same, List.map_append]; rfl) hls, ?_⟩⟩
      rw [hc, List.drop_length]
      show Paired _ _ (done ++ [cur ++ []])
      rw [List.append_nil]
      refine (paired_mem h3 fun z hz y hy => ?_).snoc ?_
      · refine New.mk ?_ (n7 z hz)
        rw [upd_ne (fun q => n4 (by rw [← q]; exact hz))]
        exact hy
      · refine New.mk ?_ n6
        rw [upd_ne (Ne.symm n3)]
        exact h2
def spDigit : Sp := fun vs H Q _ => ∃ c : UInt8, vs = [bV c] ∧ Q (.bl (digitB c)) H
theorem sc_is_digit : FnScope ["sign"] ["sign"] (defScope s_is_digit) := ⟨rfl, rfl, rfl, by decide +kernel, rfl, by decide +kernel, by decide +kernel⟩
theorem digit_le (c : UInt8) : digitB c = (decide ((48 : Int) ≤ (c.toNat : Int)) && decide ((c.toNat : Int) ≤ 57)) := by
  rw [Bool.eq_iff_iff, digitB_nat, Bool.and_eq_true, decide_eq_true_iff, decide_eq_true_iff]
  omega
theorem ok_is_digit (F : FunG K mg "is_digit" s_is_digit ["sign"]) (T : Txt mg) : Ok P w K mg base 1 "is_digit" ["sign"] spDigit := by
  refine F.ok sc_is_digit (fun vs H Q E h => ?_) (fun f cdv A outer s H vs Q E hr h => ?_)
  · obtain ⟨c, rfl, _⟩ := h
    rfl
  · obtain ⟨c, rfl, k⟩ := h
    refine ⟨_, pss_one (ps_ret (pe_chain op_le op_le (pe_gi T.c_DIGIT_0) (pv 0) (pe_gi T.c_DIGIT_9))), ?_⟩
    rw [digit_le] at k
    refine ⟨_, rfl, _, _, rfl, rfl, _, rfl, ?_⟩
    by_cases q : (48 : Int) ≤ (c.toNat : Int)
    · rw [decide_eq_true q, if_pos rfl]
      rw [decide_eq_true q, Bool.true_and] at k
      exact ⟨_, _, rfl, rfl, k⟩
    · rw [decide_eq_false q, if_neg Bool.false_ne_true]
      rw [decide_eq_false q, Bool.false_and] at k
      exact k
def optI : Option Nat → V
  | none => .non
  | some n => .int (n : Int)
def spSize : Sp := fun vs H Q _ => ∃ (a : Addr) (b : Rg.Bytes), vs = [.ref a] ∧ BytesAt H b a ∧ b.length ≤ 100000 ∧ Q (optI (readSize b)) H
theorem sc_read_size : FnScope ["digits", "size", "sign"] ["digits"] (defScope s_read_size) := ⟨rfl, rfl, rfl, by decide +kernel, rfl, by decide +kernel, by decide +kernel⟩
theorem ok_read_size (F : FunG K mg "read_size" s_read_size ["digits"]) (T : Txt mg) (O : Ok P w K mg base 1 "is_digit" ["sign"] spDigit) : Ok P w K mg base 2 "read_size" ["digits"] spSize := by
  refine F.ok sc_read_size (fun vs H Q E h => ?_) (fun f cdv A outer s H vs Q E hr h => ?_)
  · obtain ⟨a, b, rfl, _⟩ := h
    rfl
  · obtain ⟨a, b, rfl, hb, hlen, k⟩ := h
    refine ⟨_, pss_cons (ps_if (pt_imp (t' := fun σ H' Q' => σ[0]? = some (some (.ref a)) ∧ BytesAt H' b a ∧ Q' (decide (b = [] ∨ (b.head? = some 48 ∧ 1 < b.length))) H')
        (pw_or (pt_cmpR op_eq (pe_len T.b_len (pv 0)) pe_int (nomark _)) (pw_or1 (pw_and (pt_cmpR op_eq (pe_ix ix_list (pv 0) pe_int (fun _ _ => rfl)) (pe_gi T.c_DIGIT_0) (nomark _)) (pw_and1 (pt_cmpR op_gt (pe_len T.b_len (pv 0)) pe_int (nomark _)))).pt)).pt ?c1) (pss_one (ps_ret pe_non)) pss_nil)
      (pss_cons (ps_set (i := 1) sc_read_size.nd rfl (Or.inl rfl) pe_int)
      (pss_cons (ps_for PassesOwn.never rfl (pi_list (pv 0)) (pg_name (i := 2) sc_read_size.nd rfl (Or.inl rfl))
        (pss_cons (ps_if (pt_not (pt_val (pe_fn O hr (pa_cons (pv 2) pa_nil)))) (pss_one (ps_ret pe_non)) pss_nil)
        (pss_cons (ps_set (i := 1) sc_read_size.nd rfl (Or.inl rfl) (pe_op op_sub (pe_op op_add (pe_op op_mul (pv 1) pe_int) (pv 2)) (pe_gi T.c_DIGIT_0)))
        (pss_one (ps_if (pt_cmpR op_gt (pv 1) (pe_gi T.c_FARTHEST) (nomark _)) (pss_one (ps_ret pe_non)) pss_nil)))))
      (pss_one (ps_ret (pv 1))))), ?_⟩
    case c1 =>
      rintro σ H' Q' ⟨e, hb', q⟩
      refine ⟨_, e, a, _, rfl, .inl (SqL.of hb'), rfl, _, rfl, ?_⟩
      cases b with
      | nil =>
        rw [decide_eq_true (.inl rfl)] at q
        exact iteT q
      | cons c r =>
        refine iteF ⟨_, e, a, _, _, bV c, rfl, rfl, SqL.of hb', atI_nat (j := 0) rfl, rfl, _, rfl, ?_⟩
        by_cases h48 : c = 48
        · subst h48
          refine iteT ⟨_, e, a, _, rfl, .inl (SqL.of hb'), _, _, rfl, rfl, _, rfl, ?_⟩
          have e2 : decide ((1 : Int) < (((48 :: r).map bV).length : Int)) = decide ((48 :: r : Rg.Bytes) = [] ∨ ((48 :: r : Rg.Bytes).head? = some 48 ∧ 1 < (48 :: r : Rg.Bytes).length)) := by
            rw [List.length_map]
            congr 1
            apply propext
            constructor
            · intro z; exact .inr ⟨rfl, by omega⟩
            · rintro (z | z)
              · cases z
              · omega
          rw [e2]
          exact q
        · rw [decide_eq_false (show ¬ bV c = V.int 48 from fun z => h48 (bV_inj.mp (show bV c = bV 48 from z)))]
          rw [decide_eq_false] at q
          · exact iteF q
          · rintro (z | z)
            · cases z
            · exact h48 (Option.some.inj z.1)
    have k' : Q (optI (if b = [] ∨ (b.head? = some 48 ∧ 1 < b.length) then none else sizeGo 0 b)) H := k
    refine ⟨rfl, hb, ?_⟩
    by_cases h0 : b = [] ∨ (b.head? = some 48 ∧ 1 < b.length)
    · rw [decide_eq_true h0]
      rw [if_pos h0] at k'
      exact iteT k'
    · rw [decide_eq_false h0]
      rw [if_neg h0] at k'
      refine iteF ?_
      refine ⟨_, rfl, a, rfl, ⟨_, SqL.of hb⟩, for_list (K := K) (a := a) (xs := b.map bV)
        (fun i σ H' => ∃ (v : Option V) (n : Nat), σ = [some (.ref a), some (.int n), v] ∧ H' = H ∧ n ≤ Rg.FAR ∧ sizeGo 0 b = sizeGo n (b.drop i))
        ⟨none, 0, rfl, rfl, Nat.zero_le _, rfl⟩ (fun i σ H' _ ⟨_, _, _, e, _⟩ => by subst e; exact SqL.of hb) ?_ ?_⟩
      · rintro i y σ H' hi ⟨v, n, rfl, rfl, hn, hg⟩
        obtain ⟨c, hc0, rfl⟩ : ∃ c, b[i]? = some c ∧ y = bV c := by
          rw [List.getElem?_map] at hi
          cases e : b[i]? with
          | none => rw [e] at hi; cases hi
          | some z => rw [e] at hi; exact ⟨z, rfl, (Option.some.inj hi).symm⟩
        have hib : i < b.length := (List.getElem?_eq_some_iff.mp hc0).1
        have hd : b.drop i = c :: b.drop (i + 1) := by
          rw [List.drop_eq_getElem_cons hib]
          congr 1
          exact (List.getElem?_eq_some_iff.mp hc0).2
        have hstep : sizeGo n (c :: b.drop (i + 1)) = if digitB c = true then (if Rg.FAR < 10 * n + (c.toNat - 48) then none else sizeGo (10 * n + (c.toNat - 48)) (b.drop (i + 1))) else none := rfl
        rw [hd, hstep] at hg
        rw [hg] at k'
        refine ⟨_, rfl, c, rfl, _, rfl, ?_⟩
        by_cases hdg : digitB c = true
        · rw [hdg]
          rw [if_pos hdg] at k' hg
          have hcn := digitB_nat.mp hdg
          have e3 : ((n : Int) * 10 + (c.toNat : Int) - 48) = ((10 * n + (c.toNat - 48) : Nat) : Int) := by omega
          refine iteF ⟨_, rfl, _, _, rfl, rfl, .inl ⟨by unfold Rg.FAR at hn; omega, by unfold Rg.FAR at hn; omega⟩, _, rfl, _, _, rfl, rfl, _, _, rfl, rfl, ?_⟩
          refine ⟨_, rfl, _, _, rfl, rfl, _, rfl, ?_⟩
          by_cases hf : Rg.FAR < 10 * n + (c.toNat - 48)
          · rw [if_pos hf] at k'
            rw [decide_eq_true (show (1048576 : Int) < (n : Int) * 10 + (c.toNat : Int) - 48 by unfold Rg.FAR at hf; omega)]
            exact iteT k'
          · rw [if_neg hf] at hg
            rw [decide_eq_false (show ¬ (1048576 : Int) < (n : Int) * 10 + (c.toNat : Int) - 48 by unfold Rg.FAR at hf; omega)]
            exact iteF ⟨_, 10 * n + (c.toNat - 48), by show [some (V.ref a), some (V.int ((n : Int) * 10 + (c.toNat : Int) - 48)), _] = _; rw [e3], rfl, by omega, hg⟩
        · rw [if_neg hdg] at k'
          rw [Bool.eq_false_iff.mpr hdg]
          exact iteT k'
      · rintro σ H' ⟨v, n, rfl, rfl, hn, hg⟩
        rw [hg, List.length_map, List.drop_length] at k'
        exact ⟨_, rfl, k'⟩
end
end Bl
end
section
set_option maxHeartbeats 2000000
namespace Bl
open PySem PySem.Spec PyProof.Rows L2
section
variable {P : Program} {w : World} {K : PySem.W.Frag} {mg : Str → Option Value} {base : Heap}
theorem boot_all0 : bootBuiltins "all" = some (.builtin "all") := by decide +kernel
theorem boot_tuple0 : bootBuiltins "tuple" = some (.type "tuple") := by decide +kernel
theorem boot_list0 : bootBuiltins "list" = some (.type "list") := by decide +kernel
theorem boot_ord0 : bootBuiltins "ord" = some (.builtin "ord") := by decide +kernel
def nameSign (c : UInt8) : Bool := digitB c || (decide ((97 : Int) ≤ (c.toNat : Int)) && decide ((c.toNat : Int) ≤ 122))
theorem nameSign_eq (c : UInt8) : nameSign c = ((decide (97 ≤ c) && decide (c ≤ 122)) || (decide (48 ≤ c) && decide (c ≤ 57))) := by
  have e1 : decide ((97 : Int) ≤ (c.toNat : Int)) = decide (97 ≤ c) := by
    rw [Bool.eq_iff_iff, decide_eq_true_iff, decide_eq_true_iff]
    constructor
    · intro h; show (97 : UInt8).toNat ≤ c.toNat; have : (97 : UInt8).toNat = 97 := rfl; omega
    · intro h; have h' : (97 : UInt8).toNat ≤ c.toNat := h; have : (97 : UInt8).toNat = 97 := rfl; omega
  have e2 : decide ((c.toNat : Int) ≤ 122) = decide (c ≤ 122) := by
    rw [Bool.eq_iff_iff, decide_eq_true_iff, decide_eq_true_iff]
    constructor
    · intro h; show c.toNat ≤ (122 : UInt8).toNat; have : (122 : UInt8).toNat = 122 := rfl; omega
    · intro h; have h' : c.toNat ≤ (122 : UInt8).toNat := h; have : (122 : UInt8).toNat = 122 := rfl; omega
  unfold nameSign
  rw [e1, e2, Bool.or_comm]
  rfl
theorem nameOk_eq (b : Rg.Bytes) : Rg.nameOk b = (decide (1 ≤ b.length ∧ b.length ≤ 12) && b.all nameSign) := by
  unfold Rg.nameOk
  rw [show nameSign = fun (c : UInt8) => ((decide (97 ≤ c) && decide (c ≤ 122)) || (decide (48 ≤ c) && decide (c ≤ 57))) from funext nameSign_eq]
  rw [Bool.eq_iff_iff]
  simp only [Bool.and_eq_true, decide_eq_true_iff]
  constructor
  · rintro ⟨a, c, d⟩; exact ⟨⟨a, c⟩, d⟩
  · rintro ⟨⟨a, c⟩, d⟩; exact ⟨a, c, d⟩
def spName : Sp := fun vs H Q _ => ∃ (a : Addr) (b : Rg.Bytes), vs = [.ref a] ∧ BytesAt H b a ∧ b.length ≤ 100000 ∧ ∀ H', Same H H' → Q (.bl (Rg.nameOk b)) H'
theorem sc_is_name : FnScope ["word", "sign"] ["word"] (defScope s_is_name) := ⟨rfl, rfl, rfl, by decide +kernel, rfl, by decide +kernel, by decide +kernel⟩
theorem ok_is_name (F : FunG K mg "is_name" s_is_name ["word"]) (T : Txt mg) (O : Ok P w K mg base 1 "is_digit" ["sign"] spDigit) : Ok P w K mg base 2 "is_name" ["word"] spName := by
  refine F.ok sc_is_name (fun vs H Q E h => ?_) (fun f cdv A outer s H vs Q E hr h => ?_)
  · obtain ⟨a, b, rfl, _⟩ := h
    rfl
  · obtain ⟨a, b, rfl, hb, hlen, k⟩ := h
    refine ⟨_, pss_cons (ps_if (pt_imp (t' := fun σ H' Q' => σ[0]? = some (some (.ref a)) ∧ BytesAt H' b a ∧ Q' (!decide (1 ≤ b.length ∧ b.length ≤ 12)) H')
        (pt_not (pt_chain op_le op_le pe_int (pe_len T.b_len (pv 0)) (pe_gi T.c_LONGEST_NAME))) ?c1) (pss_one (ps_ret pe_bl)) pss_nil)
      (pss_one (ps_ret (pe_callB (cr_all rfl) rfl T.b_all boot_all0 (pa_cons
        (pe_lc (own := [("sign", 1)]) rfl sc_is_name.nd (pi_list (pv 0)) (blkOk_by (N := ["word", "sign"]) (sc := defScope s_is_name) (by decide +kernel)) (fun _ _ _ _ _ => pg_name (i := 1) sc_is_name.nd rfl (Or.inl rfl)) (fun _ _ _ _ _ => pts_nil)
          (fun _ _ _ _ _ => pe_or (pe_fn O hr (pa_cons (pv 1) pa_nil)) (pe_one (pe_chain op_le op_le (pe_gi T.c_LETTER_A) (pv 1) (pe_gi T.c_LETTER_Z))))) pa_nil)))), ?_⟩
    case c1 =>
      rintro σ H' Q' ⟨e, hb', q⟩
      refine ⟨_, e, a, _, rfl, .inl (SqL.of hb'), _, _, rfl, rfl, _, rfl, ?_⟩
      rw [List.length_map]
      by_cases h1 : (1 : Int) ≤ (b.length : Int)
      · rw [decide_eq_true h1]
        refine iteT ⟨_, _, rfl, rfl, _, rfl, ?_⟩
        have e2 : decide ((b.length : Int) ≤ 12) = decide (1 ≤ b.length ∧ b.length ≤ 12) := by
          congr 1
          apply propext
          omega
        rw [e2]
        exact q
      · rw [decide_eq_false h1]
        refine iteF ⟨_, rfl, ?_⟩
        rw [decide_eq_false (show ¬ (1 ≤ b.length ∧ b.length ≤ 12) by omega)] at q
        exact q
    rw [nameOk_eq] at k
    refine ⟨rfl, hb, ?_⟩
    by_cases h0 : 1 ≤ b.length ∧ b.length ≤ 12
    · rw [decide_eq_true h0]
      rw [decide_eq_true h0, Bool.true_and] at k
      refine iteF ⟨_, rfl, a, rfl, ⟨_, SqL.of hb⟩, fun D hD => lc_map (R := fun i y _ => ∃ c, b[i]? = some c ∧ y = .bl (nameSign c)) (fun _ _ _ _ _ h => h) hD hb (by rw [List.length_map]; omega) (fun _ => rfl) ?_ ?_⟩
      · rintro i x hx H' Q' s' _ q
        obtain ⟨c, hc0, rfl⟩ : ∃ c, b[i]? = some c ∧ x = bV c := by
          rw [List.getElem?_map] at hx
          cases e : b[i]? with
          | none => rw [e] at hx; cases hx
          | some z => rw [e] at hx; exact ⟨z, rfl, (Option.some.inj hx).symm⟩
        have q' := q (.bl (nameSign c)) H' (Same.refl _) ⟨c, hc0, rfl⟩
        unfold nameSign at q'
        refine ⟨_, rfl, c, rfl, _, rfl, ?_⟩
        by_cases hd : digitB c = true
        · rw [hd, Bool.true_or] at q'
          rw [hd]
          exact iteT q'
        · rw [Bool.eq_false_iff.mpr hd, Bool.false_or] at q'
          rw [Bool.eq_false_iff.mpr hd]
          refine iteF ⟨_, rfl, _, _, rfl, rfl, _, rfl, ?_⟩
          by_cases h97 : (97 : Int) ≤ (c.toNat : Int)
          · rw [decide_eq_true h97, Bool.true_and] at q'
            rw [decide_eq_true h97]
            exact iteT ⟨_, _, rfl, rfl, q'⟩
          · rw [decide_eq_false h97, Bool.false_and] at q'
            rw [decide_eq_false h97]
            exact iteF q'
      · intro H' hI
        have e1 : H' D = some (.lst ((b.map nameSign).map V.bl)) := hI.eq (by rw [List.length_map, List.length_map, List.length_map]) (fun k y hk ⟨c, hc, hy⟩ => by rw [List.getElem?_map, List.getElem?_map, hc, hy]; rfl)
        refine ⟨D, b.map nameSign, rfl, SqL.of e1, ?_⟩
        have e2 : (b.map nameSign).all id = b.all nameSign := by rw [List.all_map]; rfl
        rw [e2]
        exact k _ hI.same
    · rw [decide_eq_false h0]
      rw [decide_eq_false h0, Bool.false_and] at k
      exact iteT (k _ (Same.refl _))
def optZ : Option Int → V
  | none => .non
  | some z => .int z
def bI (c : UInt8) : Int := (c.toNat : Int)
theorem bytes_ints (b : Rg.Bytes) : b.map bV = (b.map bI).map V.int := by rw [List.map_map]; rfl
theorem bI_inj {a b : Rg.Bytes} : a.map bI = b.map bI ↔ a = b := by
  constructor
  · intro h
    induction a generalizing b with
    | nil =>
      cases b with
      | nil => rfl
      | cons c d => cases h
    | cons x r ih =>
      cases b with
      | nil => cases h
      | cons c d =>
        rw [List.map_cons, List.map_cons] at h
        obtain ⟨h1, h2⟩ := List.cons.inj h
        rw [ih h2]
        congr 1
        exact UInt8.toNat_inj.mp (by unfold bI at h1; omega)
  · intro h; rw [h]
def spNumber : Sp := fun vs H Q _ => ∃ (a : Addr) (b : Rg.Bytes), vs = [.ref a] ∧ BytesAt H b a ∧ b.length ≤ 100000 ∧ ∀ H', Same H H' → Q (optZ (readNumber b)) H'
theorem sc_read_number : FnScope ["word", "size"] ["word"] (defScope s_read_number) := ⟨rfl, rfl, rfl, by decide +kernel, rfl, by decide +kernel, by decide +kernel⟩
theorem ok_read_number (F : FunG K mg "read_number" s_read_number ["word"]) (T : Txt mg) (O : Ok P w K mg base 2 "read_size" ["digits"] spSize) : Ok P w K mg base 3 "read_number" ["word"] spNumber := by
  refine F.ok sc_read_number (fun vs H Q E h => ?_) (fun f cdv A outer s H vs Q E hr h => ?_)
  · obtain ⟨a, b, rfl, _⟩ := h
    rfl
  · obtain ⟨a, b, rfl, hb, hlen, k⟩ := h
    refine ⟨_, pss_cons (ps_if (pt_cmpR (op_neD hr.units) (pe_slice sl_list (pv 0) po_none (po_some pe_int)) (pe_lst (pa_cons (pe_gi T.c_MINUS) pa_nil)) (nomark _)) (pss_one (ps_ret (pe_fn O hr (pa_cons (pv 0) pa_nil)))) pss_nil)
      (pss_cons (ps_set (i := 1) sc_read_number.nd rfl (Or.inl rfl) (pe_fn O hr (pa_cons (pe_slice sl_list (pv 0) (po_some pe_int) po_none) pa_nil)))
      (pss_cons (ps_if (pw_or (pt_cmpR op_isN (pv 1) pe_non (nomark _)) (pw_or1 (pt_cmpR op_eq (pv 1) pe_int (nomark _)))).pt (pss_one (ps_ret pe_non)) pss_nil)
      (pss_one (ps_ret (pe_un un_neg (pv 1)))))), ?_⟩
    refine ⟨_, rfl, _, rfl, a, _, rfl, SqL.of hb, fun p1 hp1 => ⟨(by show 1 ≤ sizeLine; decide), fun p2 hp2 => ?_⟩⟩
    rw [cut_take1] at hp2 ⊢
    have s1 : Same H (upd H p1 (.lst ((b.map bV).take 1))) := Same.new hp1
    have s2 : Same H (upd (upd H p1 (.lst ((b.map bV).take 1))) p2 (.lst [V.int 45])) := s1.trans (Same.new hp2)
    have e1 : (upd (upd H p1 (.lst ((b.map bV).take 1))) p2 (.lst [V.int 45])) p1 = some (.lst (((b.take 1).map bI).map V.int)) := by
      rw [upd_ne (ne_of_none upd_same hp2), upd_same, ← bytes_ints, List.map_take]
    have e2 : (upd (upd H p1 (.lst ((b.map bV).take 1))) p2 (.lst [V.int 45])) p2 = some (.lst ((([45] : Rg.Bytes).map bI).map V.int)) := upd_same
    refine rNeL e1 e2 ⟨_, rfl, ?_⟩
    rw [show decide ((b.take 1).map bI = ([45] : Rg.Bytes).map bI) = decide (b.take 1 = [45]) by congr 1; exact propext bI_inj]
    unfold readNumber at k
    by_cases hm : b.take 1 = [45]
    · rw [decide_eq_true hm]
      rw [if_pos hm] at k
      refine iteF ⟨_, rfl, _, rfl, a, _, rfl, SqL.of (s2 _ _ hb), fun p3 hp3 => ?_⟩
      rw [cut_drop1]
      have s3 := s2.trans (Same.new (o := .lst ((b.map bV).drop 1)) hp3)
      refine ⟨p3, b.drop 1, rfl, by show upd _ _ _ _ = _; rw [upd_same, List.map_drop], by rw [List.length_drop]; omega, ?_⟩
      have k3 := k _ s3
      cases hs : readSize (b.drop 1) with
      | none =>
        rw [hs] at k3
        exact ⟨_, rfl, rfl, _, rfl, iteT (iteT k3)⟩
      | some n =>
        rw [hs] at k3
        cases n with
        | zero => exact ⟨_, rfl, rfl, _, rfl, iteF ⟨_, rfl, rfl, _, rfl, iteT k3⟩⟩
        | succ n =>
          refine ⟨_, rfl, rfl, _, rfl, iteF ⟨_, rfl, rfl, _, rfl, ?_⟩⟩
          rw [decide_eq_false (show ¬ optI (some (n + 1)) = V.int 0 from fun z => absurd (V.int.inj (show V.int ((n + 1 : Nat) : Int) = V.int 0 from z)) (by omega))]
          exact iteF ⟨_, rfl, _, rfl, k3⟩
    · rw [decide_eq_false hm]
      rw [if_neg hm] at k
      refine iteT ⟨_, rfl, a, b, rfl, s2 _ _ hb, hlen, ?_⟩
      have k2 := k _ s2
      cases hs : readSize b with
      | none => rw [hs] at k2; exact k2
      | some n => rw [hs] at k2; exact k2
theorem numbers_in : ∀ ws : List Rg.Bytes, inV .non (ws.map fun x => optZ (readNumber x)) = (readNumbers ws).isNone
  | [] => rfl
  | x :: r => by
    have ih := numbers_in r
    unfold inV at ih ⊢
    rw [List.map_cons, List.any_cons, ih]
    show _ = (match readNumber x, readNumbers r with | some z, some l => some (z :: l) | _, _ => none : Option (List Int)).isNone
    cases readNumber x with
    | none => rfl
    | some z =>
      cases readNumbers r with
      | none => rfl
      | some l => rfl
theorem numbers_map : ∀ {ws : List Rg.Bytes} {l : List Int}, readNumbers ws = some l → (ws.map fun x => optZ (readNumber x)) = l.map V.int
  | [], l, h => by cases h; rfl
  | x :: r, l, h => by
    unfold readNumbers at h
    cases hx : readNumber x with
    | none => rw [hx] at h; cases h
    | some z =>
      cases hr : readNumbers r with
      | none => rw [hx, hr] at h; cases h
      | some l' =>
        rw [hx, hr] at h
        cases h
        rw [List.map_cons, numbers_map hr, hx]
        rfl
theorem flat_numbers : ∀ ws : List Rg.Bytes, (ws.map fun x => optZ (readNumber x)).all flatV = true
  | [] => rfl
  | x :: r => by
    rw [List.map_cons, List.all_cons, flat_numbers r, Bool.and_true]
    cases readNumber x <;> rfl
def NumsV (H : Hp) (o : Option (List Int)) (v : V) : Prop := match o with
  | none => v = .non
  | some l => ∃ q, v = .ref q ∧ IntsAt H l q
def Short (ws : List Rg.Bytes) : Prop := ws.length ≤ 100001 ∧ ∀ x ∈ ws, x.length ≤ 100000
def spNumbers : Sp := fun vs H Q _ => ∃ (a : Addr) (ws : List Rg.Bytes), vs = [.ref a] ∧ WordsAt H ws a ∧ Short ws ∧ ∀ H' v, Same H H' → NumsV H' (readNumbers ws) v → Q v H'
theorem sc_read_numbers : FnScope ["words", "numbers", "word"] ["words"] (defScope s_read_numbers) := ⟨rfl, rfl, rfl, by decide +kernel, rfl, by decide +kernel, by decide +kernel⟩
theorem ok_read_numbers (F : FunG K mg "read_numbers" s_read_numbers ["words"]) (T : Txt mg) (O : Ok P w K mg base 3 "read_number" ["word"] spNumber) : Ok P w K mg base 4 "read_numbers" ["words"] spNumbers := by
  refine F.ok sc_read_numbers (fun vs H Q E h => ?_) (fun f cdv A outer s H vs Q E hr h => ?_)
  · obtain ⟨a, ws, rfl, _⟩ := h
    rfl
  · obtain ⟨a, ws, rfl, ⟨as, ha, hp⟩, ⟨hn, hs⟩, k⟩ := h
    refine ⟨_, pss_cons (ps_setLc (i := 1) (own := [("word", 2)]) rfl sc_read_numbers.nd rfl rfl (sw_true rfl rfl rfl (by decide +kernel)) (pi_list (pv 0)) (blkOk_by (N := ["words", "numbers", "word"]) (sc := defScope s_read_numbers) (by decide +kernel)) (fun _ _ _ _ _ => pg_name (i := 2) sc_read_numbers.nd rfl (Or.inl rfl)) (fun _ _ _ _ _ => pts_nil)
          (fun _ _ _ _ _ => pe_fn O hr (pa_cons (pv 2) pa_nil)))
      (pss_cons (ps_if (pt_cmpR op_in_seq pe_non (pv 1) (by with_unfolding_all rfl)) (pss_one (ps_ret pe_non)) pss_nil)
      (pss_one (ps_ret (pv 1)))), ?_⟩
    refine ⟨_, rfl, a, rfl, ⟨_, SqL.of ha⟩, fun D hD => lc_map (R := fun i y _ => ∃ x, ws[i]? = some x ∧ y = optZ (readNumber x)) (fun _ _ _ _ _ h => h) hD ha (by rw [List.length_map, hp.length]; omega) (fun _ => rfl) ?_ ?_⟩
    · rintro i x hx H' Q' s' _ q
      rw [List.getElem?_map] at hx
      cases e : as[i]? with
      | none => rw [e] at hx; cases hx
      | some c =>
        rw [e] at hx
        have ex : V.ref c = x := Option.some.inj hx
        subst ex
        obtain ⟨y, hy, hc⟩ := paired_getL hp e
        exact ⟨_, rfl, c, y, rfl, s' _ _ hc, hs y (List.mem_of_getElem? hy), fun H4 s4 => q _ _ s4 ⟨y, hy, rfl⟩⟩
    · intro H' hI
      have e1 : H' D = some (.lst (ws.map fun x => optZ (readNumber x))) := hI.eq (by rw [List.length_map, List.length_map, hp.length]) (fun k y hk ⟨x, hx, hy⟩ => by rw [List.getElem?_map, hx, hy]; rfl)
      refine ⟨_, rfl, D, _, rfl, .inl (SqL.of e1), rfl, flat_numbers ws, _, rfl, ?_⟩
      rw [numbers_in]
      have kk := fun v => k H' v hI.same
      cases hr : readNumbers ws with
      | none =>
        rw [hr] at kk
        exact iteT (kk _ rfl)
      | some l =>
        rw [hr] at kk
        rw [numbers_map hr] at e1
        exact iteF ⟨_, rfl, kk _ ⟨D, rfl, e1⟩⟩
def LineV (H : Hp) (o : Option Rg.LogLine) (v : V) : Prop := match o with
  | none => v = .non
  | some (.boat n) => ∃ q a, v = .ref q ∧ H q = some (.tup [.str "boat", .ref a]) ∧ BytesAt H n a
  | some (.wind p) => ∃ q a, v = .ref q ∧ H q = some (.tup [.str "wind", .ref a]) ∧ PtAt H p a
  | some (.at_ hs) => ∃ q a, v = .ref q ∧ H q = some (.tup [.str "at", .ref a]) ∧ HullsAt H hs a
def spRead (f : List Rg.Bytes → Option Rg.LogLine) : Sp := fun vs H Q _ => ∃ (a : Addr) (ws : List Rg.Bytes) (B : Hp), vs = [.ref a] ∧ Same B H ∧ WordsAt (New B H) ws a ∧ Short ws ∧ ∀ H' v, Same H H' → LineV (New B H') (f ws) v → Q v H'
theorem sc_read_boat : FnScope ["words"] ["words"] (defScope s_read_boat) := ⟨rfl, rfl, rfl, by decide +kernel, rfl, by decide +kernel, by decide +kernel⟩
theorem ok_read_boat (F : FunG K mg "read_boat" s_read_boat ["words"]) (T : Txt mg) (O : Ok P w K mg base 2 "is_name" ["word"] spName) : Ok P w K mg base 3 "read_boat" ["words"] (spRead readBoat) := by
  refine F.ok sc_read_boat (fun vs H Q E h => ?_) (fun f cdv A outer s H vs Q E hr h => ?_)
  · obtain ⟨a, ws, B, rfl, _⟩ := h
    rfl
  · obtain ⟨a, ws, B, rfl, sB, ⟨as, ha', hp⟩, ⟨hn, hs⟩, k⟩ := h
    have ha := (New.inv ha').2
    refine ⟨_, pss_cons (ps_if (pw_and (pt_cmpR op_eq (pe_len T.b_len (pv 0)) pe_int (nomark _)) (pw_and1 (pt_val (pe_fn O hr (pa_cons (pe_ix ix_list (pv 0) pe_int (fun _ _ => rfl)) pa_nil))))).pt
        (pss_one (ps_ret (pe_tup (pa_cons (pe_gs T.c_BOAT_lines) (pa_cons (pe_ix ix_list (pv 0) pe_int (fun _ _ => rfl)) pa_nil))))) pss_nil)
      (pss_one (ps_ret pe_non)), ?_⟩
    refine ⟨_, rfl, a, _, rfl, .inl (SqL.of ha), rfl, _, rfl, ?_⟩
    have hl : as.length = ws.length := hp.length
    match ws, hp, k with
    | [n], hp, k =>
      cases hp with
      | cons h1 h2 =>
        cases h2
        rename_i c
        refine iteT ⟨_, rfl, a, _, _, V.ref c, rfl, rfl, SqL.of ha, rfl, c, n, rfl, (New.inv h1).2, hs n List.mem_cons_self, fun H1 s1 => ⟨_, rfl, ?_⟩⟩
        by_cases hq : Rg.nameOk n = true
        · rw [hq]
          refine iteT ⟨_, rfl, a, _, _, V.ref c, rfl, rfl, SqL.of (s1 _ _ ha), rfl, (by show 2 ≤ sizeLine; decide), fun t ht => ?_⟩
          have e : readBoat [n] = some (.boat n) := by
            show (if Rg.nameOk n = true then some (Rg.LogLine.boat n) else none) = _
            rw [if_pos hq]
          rw [e] at k
          have s2 := s1.trans (Same.new (o := .tup [.str "boat", .ref c]) ht)
          exact k _ _ s2 ⟨t, c, rfl, New.mk upd_same (sB.free (s1.free ht)), New.same s2 _ _ h1⟩
        · rw [Bool.eq_false_iff.mpr hq]
          have e : readBoat [n] = none := by
            show (if Rg.nameOk n = true then some (Rg.LogLine.boat n) else none) = _
            rw [if_neg hq]
          rw [e] at k
          exact iteF (k _ _ s1 rfl)
    | [], hp, k =>
      cases hp
      exact iteF (iteF (k _ _ (Same.refl _) rfl))
    | x :: y :: r, hp, k =>
      rw [decide_eq_false (show ¬ V.int ((as.map V.ref).length : Int) = V.int 1 from fun z => by
        have z' := V.int.inj z
        rw [List.length_map, hl, List.length_cons, List.length_cons] at z'
        omega)]
      exact iteF (iteF (k _ _ (Same.refl _) rfl))
theorem sc_read_wind : FnScope ["words", "numbers"] ["words"] (defScope s_read_wind) := ⟨rfl, rfl, rfl, by decide +kernel, rfl, by decide +kernel, by decide +kernel⟩
theorem ok_read_wind (F : FunG K mg "read_wind" s_read_wind ["words"]) (T : Txt mg) (O : Ok P w K mg base 4 "read_numbers" ["words"] spNumbers) : Ok P w K mg base 5 "read_wind" ["words"] (spRead readWind) := by
  refine F.ok sc_read_wind (fun vs H Q E h => ?_) (fun f cdv A outer s H vs Q E hr h => ?_)
  · obtain ⟨a, ws, B, rfl, _⟩ := h
    rfl
  · obtain ⟨a, ws, B, rfl, sB, hw, hs, k⟩ := h
    refine ⟨_, pss_cons (ps_set (i := 1) sc_read_wind.nd rfl (Or.inl rfl) (pe_fn O hr (pa_cons (pv 0) pa_nil)))
      (pss_cons (ps_if (pw_or (pt_cmpR op_isN (pv 1) pe_non (nomark _)) (pw_or1 (pt_cmpR op_ne (pe_len T.b_len (pv 1)) pe_int (nomark _)))).pt (pss_one (ps_ret pe_non)) pss_nil)
      (pss_one (ps_ret (pe_tup (pa_cons (pe_gs T.c_WIND) (pa_cons (pe_callTy call_tuple_of rfl T.b_tuple boot_tuple0 (pa_cons (pv 1) pa_nil)) pa_nil)))))), ?_⟩
    refine ⟨_, rfl, a, ws, rfl, WordsAt.same New.sub hw, hs, fun H1 v s1 hv => ⟨_, rfl, rfl, _, rfl, ?_⟩⟩
    unfold readWind at k
    cases hr : readNumbers ws with
    | none =>
      rw [hr] at k hv
      have e : v = .non := hv
      subst e
      exact iteT (iteT (k _ _ s1 rfl))
    | some l =>
      rw [hr] at k hv
      obtain ⟨q, rfl, hq⟩ := hv
      refine iteF ⟨_, rfl, q, _, rfl, .inl (SqL.of hq), rfl, _, rfl, ?_⟩
      match l, hq, k with
      | [u, v], hq, k =>
        refine iteF ⟨_, rfl, q, _, rfl, .inl ⟨SqL.of hq, fun t ht => ⟨(by show 2 ≤ sizeLine; decide), fun t2 ht2 => ?_⟩⟩⟩
        have n1 : t ≠ t2 := ne_of_none upd_same ht2
        have b1 := sB.free (s1.free ht)
        have b2 := sB.free (s1.free ((Same.new ht).free ht2))
        exact k _ _ (s1.trans ((Same.new ht).trans (Same.new ht2))) ⟨t2, t, rfl, New.mk upd_same b2, New.mk (by rw [upd_ne n1]; exact upd_same) b1⟩
      | [], hq, k => exact iteT (k _ _ s1 rfl)
      | [_], hq, k => exact iteT (k _ _ s1 rfl)
      | x :: y :: z :: r, hq, k =>
        rw [decide_eq_false (show ¬ V.int (((x :: y :: z :: r).map V.int).length : Int) = V.int 2 from fun e => by
          have e' := V.int.inj e
          rw [List.length_map, List.length_cons, List.length_cons, List.length_cons] at e'
          omega)]
        exact iteT (k _ _ s1 rfl)
end
end Bl
end
section
set_option maxHeartbeats 2000000
namespace Bl
open PySem PySem.Spec PyProof.Rows L2
section
variable {P : Program} {w : World} {K : PySem.W.Frag} {mg : Str → Option Value} {base : Heap}
theorem size4 (n : Nat) : Builtin.Range.rangeSize 0 (n : Int) 4 = ((n + 3) / 4 : Nat) := by
  unfold Builtin.Range.rangeSize
  rw [if_pos (by decide)]
  by_cases h0 : (0 : Int) < (n : Int)
  · rw [if_pos h0]
    omega
  · rw [if_neg h0]
    omega
theorem fits {z : Int} (h : -(2 ^ 62) ≤ z) (h' : z < 2 ^ 62) : Builtin.Range.rangeFitsLong z = true := by
  unfold Builtin.Range.rangeFitsLong
  rw [Bool.and_eq_true]
  exact ⟨decide_eq_true (by omega), decide_eq_true (by omega)⟩
theorem range4 {n : Nat} (h : n ≤ 1000) : RgC 0 (n : Int) 4 ((n + 3) / 4) := by
  refine ⟨by decide, by decide, ?_, size4 n⟩
  have e := size4 n
  unfold Builtin.Range.small
  rw [e, fits (z := 0) (by decide) (by decide), fits (z := (n : Int)) (by omega) (by omega), fits (z := 4) (by decide) (by decide), fits (z := (((n + 3) / 4 : Nat) : Int)) (by omega) (by omega)]
  rw [if_pos (by decide), fits (z := (n : Int) + (4 - 1)) (by omega) (by omega), Bool.or_true]
  rfl
theorem hull_at {l : List Int} {k i : Nat} {h : Rg.Hull} (hl : l.length = 4 * k) (hi : (Rg.hullsIn l)[i]? = some h) : (l.drop (4 * i)).take 4 = Rg.hullNums h := by
  obtain ⟨e1, e2⟩ := hulls_nums k l hl
  have gen : ∀ (hs : List Rg.Hull) (i : Nat), hs[i]? = some h → ((hs.flatMap Rg.hullNums).drop (4 * i)).take 4 = Rg.hullNums h := by
    intro hs
    induction hs with
    | nil => intro i hi; simp at hi
    | cons x r ih =>
      intro i hi
      cases i with
      | zero =>
        have e : x = h := by simpa using hi
        subst e
        rfl
      | succ i =>
        rw [List.flatMap_cons, show 4 * (i + 1) = 4 + 4 * i by omega, ← List.drop_drop]
        show ((List.drop 4 (Rg.hullNums x ++ List.flatMap Rg.hullNums r)).drop (4 * i)).take 4 = _
        rw [show List.drop 4 (Rg.hullNums x ++ List.flatMap Rg.hullNums r) = List.flatMap Rg.hullNums r from rfl]
        exact ih i (by simpa using hi)
  have := gen (Rg.hullsIn l) i hi
  rw [e1] at this
  exact this
theorem sc_read_at : FnScope ["words", "numbers", "k"] ["words"] (defScope s_read_at) := ⟨rfl, rfl, rfl, by decide +kernel, rfl, by decide +kernel, by decide +kernel⟩
theorem ok_read_at (F : FunG K mg "read_at" s_read_at ["words"]) (T : Txt mg) (O : Ok P w K mg base 4 "read_numbers" ["words"] spNumbers) : Ok P w K mg base 5 "read_at" ["words"] (spRead readAt) := by
  refine F.ok sc_read_at (fun vs H Q E h => ?_) (fun f cdv A outer s H vs Q E hr h => ?_)
  · obtain ⟨a, ws, B, rfl, _⟩ := h
    rfl
  · obtain ⟨a, ws, B, rfl, sB, hw, hs, k⟩ := h
    refine ⟨_, pss_cons (ps_set (i := 1) sc_read_at.nd rfl (Or.inr rfl) (pe_fn O hr (pa_cons (pv 0) pa_nil)))
      (pss_cons (ps_if (pw_or (pt_cmpR op_isN (pv 1) pe_non (nomark _)) (pw_or1 (pt_not (pt_chain op_le op_le (pe_gi T.c_HULL_NUMBERS) (pe_len T.b_len (pv 1)) (pe_gi T.c_MOST_NUMBERS))))).pt (pss_one (ps_ret pe_non)) pss_nil)
      (pss_cons (ps_if (pt_cmpR op_ne (pe_op op_mod (pe_len T.b_len (pv 1)) (pe_gi T.c_HULL_NUMBERS)) pe_int (nomark _)) (pss_one (ps_ret pe_non)) pss_nil)
      (pss_one (ps_ret (pe_tup (pa_cons (pe_gs T.c_AT) (pa_cons
        (pe_lc (own := [("k", 2)]) rfl sc_read_at.nd (pi_range3 rfl T.b_range (pa_cons pe_int (pa_cons (pe_len T.b_len (pv 1)) (pa_cons (pe_gi T.c_HULL_NUMBERS) pa_nil)))) (blkOk_by (N := ["words", "numbers", "k"]) (sc := defScope s_read_at) (by decide +kernel))
          (fun _ _ _ _ _ => pg_name (i := 2) sc_read_at.nd rfl (Or.inl rfl)) (fun _ _ _ _ _ => pts_nil)
          (fun _ _ _ _ _ => pe_callTy (call_tupleK (K := K) rfl) rfl T.b_tuple boot_tuple0 (pa_cons (pe_slice (sl_listK (K := K) rfl) (pv 1) (po_some (pv 2)) (po_some (pe_op op_add (pv 2) (pe_gi T.c_HULL_NUMBERS)))) pa_nil))) pa_nil))))))), ?_⟩
    refine ⟨_, rfl, a, ws, rfl, WordsAt.same New.sub hw, hs, fun H1 v s1 hv => ⟨_, rfl, rfl, _, rfl, ?_⟩⟩
    unfold readAt at k
    cases hr : readNumbers ws with
    | none =>
      rw [hr] at k hv
      have e : v = .non := hv
      subst e
      exact iteT (iteT (k _ _ s1 rfl))
    | some l =>
      rw [hr] at k hv
      replace k : ∀ (H' : Hp) (v : V), Same H H' → LineV (New B H') (if 4 ≤ l.length ∧ l.length ≤ 256 ∧ l.length % 4 = 0 then some (.at_ (Rg.hullsIn l)) else none) v → Q v H' := k
      obtain ⟨q, rfl, hq⟩ := hv
      refine iteF ⟨_, rfl, q, _, rfl, .inl (SqL.of hq), _, _, rfl, rfl, _, rfl, ?_⟩
      rw [List.length_map]
      by_cases h4 : (4 : Int) ≤ (l.length : Int)
      · rw [decide_eq_true h4]
        refine iteT ⟨_, _, rfl, rfl, _, rfl, ?_⟩
        by_cases h256 : (l.length : Int) ≤ 256
        · rw [decide_eq_true h256]
          refine iteF ⟨_, rfl, q, _, rfl, .inl (SqL.of hq), _, _, rfl, rfl, (by show (0 : Int) < 4; decide), rfl, _, rfl, ?_⟩
          rw [List.length_map]
          by_cases hm : l.length % 4 = 0
          · rw [if_pos ⟨by omega, by omega, hm⟩] at k
            rw [decide_eq_true (show V.int ((l.length : Int) % 4) = V.int 0 by congr 1; omega)]
            refine iteF ?_
            obtain ⟨e1, e2⟩ := hulls_nums (l.length / 4) l (by omega)
            refine ⟨_, rfl, q, _, rfl, .inl (SqL.of hq), _, _, _, (l.length + 3) / 4, rfl, by rw [List.length_map]; exact range4 (by omega), fun D hD => lc_rangeC (R := fun i y G => ∃ h, (Rg.hullsIn l)[i]? = some h ∧ ∃ c, y = .ref c ∧ HullAt G h c ∧ B c = none)
              (fun i y G G' s ⟨h, e, c, ey, hc, hB⟩ => ⟨h, e, c, ey, hc.same s, hB⟩) hD (by omega) (fun _ => rfl) ?_ ?_⟩
            · rintro i hi H2 Q2 s2 ⟨acc, hacc⟩ q2
              have hi' : i < (Rg.hullsIn l).length := by omega
              refine ⟨_, rfl, _, rfl, _, rfl, _, rfl, _, _, rfl, rfl, _, rfl, q, _, rfl, SqL.of (s2 _ _ hq), fun p hp => ?_⟩
              have e3 : cutV (l.map V.int) (some (0 + (i : Int) * 4)) (some (0 + (i : Int) * 4 + 4)) = ((Rg.hullNums (Rg.hullsIn l)[i]).map V.int) := by
                rw [show (0 + (i : Int) * 4) = ((4 * i : Nat) : Int) by omega, show ((4 * i : Nat) : Int) + 4 = ((4 * i + 4 : Nat) : Int) by omega, cut_mid _ _ _ (by omega) (by rw [List.length_map]; omega), ← List.map_drop, ← List.map_take,
                  show 4 * i + 4 - 4 * i = 4 by omega, hull_at (k := l.length / 4) (by omega) (List.getElem?_eq_getElem hi')]
              rw [e3]
              refine ⟨p, _, rfl, .inl ⟨SqL.of upd_same, fun t ht => q2 _ _ ((Same.new hp).trans (Same.new ht)) ⟨_, List.getElem?_eq_getElem hi', t, rfl, Off.mk upd_same ?_, sB.free (s1.free (s2.free ((Same.new hp).free ht)))⟩⟩⟩
              intro hmem
              have htD : t = D := List.mem_singleton.mp hmem
              subst htD
              rw [upd_ne (fun z => by rw [← z, hacc] at hp; cases hp), hacc] at ht
              cases ht
            · intro H2 hI
              refine ⟨(by show 2 ≤ sizeLine; decide), fun t ht => ?_⟩
              have s3 := s1.trans (hI.same.trans (Same.new (o := .tup [.str "at", .ref D]) ht))
              have hI' := hI.same
              obtain ⟨⟨ys, h1, h2, h3⟩, h4⟩ := hI
              have bD := sB.free (s1.free hD)
              have bT := sB.free (s1.free (hI'.free ht))
              refine k _ _ s3 ⟨t, D, rfl, New.mk upd_same bT, ?_⟩
              have build : ∀ (zs : List V) (hs : List Rg.Hull), zs.length = hs.length → (∀ (k : Nat) (y : V), zs[k]? = some y → ∃ h, hs[k]? = some h ∧ ∃ c, y = V.ref c ∧ HullAt (Off [D] H2) h c ∧ B c = none) → ∃ as : List Addr, zs = as.map V.ref ∧ Paired (fun a h => HullAt (Off [D] H2) h a ∧ B a = none) as hs := by
                intro zs
                induction zs with
                | nil =>
                  intro hs hl _
                  cases hs with
                  | nil => exact ⟨[], rfl, .nil⟩
                  | cons _ _ => simp at hl
                | cons z zs ih =>
                  intro hs hl hz
                  cases hs with
                  | nil => simp at hl
                  | cons h hs =>
                    obtain ⟨as, ea, pa⟩ := ih hs (by simpa using hl) (fun k y e => hz (k + 1) y (by simpa using e))
                    obtain ⟨h', eh, c, ec, hc⟩ := hz 0 z rfl
                    have eh' : h = h' := by simpa using eh
                    subst eh'
                    exact ⟨c :: as, by rw [ec, ea]; rfl, .cons hc pa⟩
              obtain ⟨as, ea, pa⟩ := build ys (Rg.hullsIn l) (by omega) h3
              refine ⟨as, New.mk ?_ bD, paired_mem pa fun c _ h hc => ?_⟩
              · rw [upd_ne (fun z => by rw [← z, h1] at ht; cases ht), h1, ea]
              · have hc' := (Off.inv hc.1).2
                refine New.mk ?_ hc.2
                rw [upd_ne (fun z => by rw [← z, hc'] at ht; cases ht)]
                exact hc'
          · rw [if_neg (fun z => hm z.2.2)] at k
            rw [decide_eq_false (show ¬ V.int ((l.length : Int) % 4) = V.int 0 from fun z => hm (by have := V.int.inj z; omega))]
            exact iteT (k _ _ s1 rfl)
        · rw [if_neg (fun z => h256 (by omega))] at k
          rw [decide_eq_false h256]
          exact iteT (k _ _ s1 rfl)
      · rw [if_neg (fun z => h4 (by omega))] at k
        rw [decide_eq_false h4]
        exact iteF ⟨_, rfl, iteT (k _ _ s1 rfl)⟩
def spSpelled : Sp := fun vs H Q _ => ∃ z : Str, vs = [.str z] ∧ z.cps.size ≤ 100 ∧ ∀ (H' : Hp) (q : Addr), Same H H' → IntsAt H' (z.cps.toList.map fun (n : Nat) => (n : Int)) q → Q (.ref q) H'
theorem sc_spelled : FnScope ["word", "sign"] ["word"] (defScope s_spelled) := ⟨rfl, rfl, rfl, by decide +kernel, rfl, by decide +kernel, by decide +kernel⟩
theorem ok_spelled (F : FunG K mg "spelled" s_spelled ["word"]) (T : Txt mg) : Ok P w K mg base 1 "spelled" ["word"] spSpelled := by
  refine F.ok sc_spelled (fun vs H Q E h => ?_) (fun f cdv A outer s H vs Q E hr h => ?_)
  · obtain ⟨z, rfl, _⟩ := h
    rfl
  · obtain ⟨z, rfl, hz, k⟩ := h
    refine ⟨_, pss_one (ps_ret (pe_lc (own := [("sign", 1)]) rfl sc_spelled.nd (pi_str (pv 0)) (blkOk_by (N := ["word", "sign"]) (sc := defScope s_spelled) (by decide +kernel))
          (fun _ _ _ _ _ => pg_name (i := 1) sc_spelled.nd rfl (Or.inl rfl)) (fun _ _ _ _ _ => pts_nil)
          (fun _ _ _ _ _ => pe_callB call_ord rfl T.b_ord boot_ord0 (pa_cons (pv 1) pa_nil)))), ?_⟩
    refine ⟨_, rfl, z, rfl, fun D hD => lc_str (R := fun i y _ => ∃ c, z.cps[i]? = some c ∧ y = .int (c : Nat)) (fun _ _ _ _ _ h => h) hD (by omega) (fun _ => rfl) ?_ ?_⟩
    · rintro i c hc H' Q' s' _ q
      exact ⟨_, rfl, _, rfl, rfl, q _ _ (Same.refl _) ⟨c, hc, rfl⟩⟩
    · intro H' hI
      refine k _ _ hI.same (hI.eq (by rw [List.length_map, List.length_map, Array.length_toList]) fun k y hk ⟨c, hc, hy⟩ => ?_)
      rw [List.getElem?_map, List.getElem?_map, Array.getElem?_toList, hc, hy]
      rfl
theorem cut_len (x : UInt8) : ∀ b : Rg.Bytes, (Rg.cutAt x b).length ≤ b.length + 1 ∧ ∀ y ∈ Rg.cutAt x b, y.length ≤ b.length
  | [] => ⟨Nat.le_refl 1, fun y hy => by
    rcases List.mem_cons.mp hy with rfl | hy
    · exact Nat.le_refl _
    · cases hy⟩
  | c :: r => by
    obtain ⟨i1, i2⟩ := cut_len x r
    by_cases hc : c = x
    · subst hc
      rw [cutAt_mark]
      refine ⟨by rw [List.length_cons, List.length_cons]; omega, fun y hy => ?_⟩
      rcases List.mem_cons.mp hy with rfl | hy
      · exact Nat.zero_le _
      · have := i2 y hy
        rw [List.length_cons]
        omega
    · obtain ⟨l, m, e⟩ := cutAt_head x r
      rw [cutAt_other r hc e]
      rw [e] at i1 i2
      refine ⟨by rw [List.length_cons] at i1 ⊢; rw [List.length_cons]; omega, fun y hy => ?_⟩
      rcases List.mem_cons.mp hy with rfl | hy
      · have := i2 l List.mem_cons_self
        rw [List.length_cons, List.length_cons]
        omega
      · have := i2 y (List.mem_cons_of_mem _ hy)
        rw [List.length_cons]
        omega
def spLine : Sp := fun vs H Q _ => ∃ (a : Addr) (b : Rg.Bytes), vs = [.ref a] ∧ BytesAt H b a ∧ b.length ≤ 100000 ∧ ∀ H' v, Same H H' → LineV (New H H') (readLine b) v → Q v H'
theorem sc_read_line : FnScope ["line", "words"] ["line"] (defScope s_read_line) := ⟨rfl, rfl, rfl, by decide +kernel, rfl, by decide +kernel, by decide +kernel⟩
theorem ascii_ints (z : Str) (t : String) (h : (z.cps.toList.map fun (n : Nat) => (n : Int)) = (Rg.ascii t).map bI) (x : Rg.Bytes) : decide (x.map bI = (z.cps.toList.map fun (n : Nat) => (n : Int))) = decide (x = Rg.ascii t) := by
  rw [h]
  congr 1
  exact propext bI_inj
theorem ok_read_line (F : FunG K mg "read_line" s_read_line ["line"]) (T : Txt mg) (OC : Ok P w K mg base 1 "cut" ["signs", "mark"] spCut) (OS : Ok P w K mg base 1 "spelled" ["word"] spSpelled)
    (OB : Ok P w K mg base 3 "read_boat" ["words"] (spRead readBoat)) (OW : Ok P w K mg base 5 "read_wind" ["words"] (spRead readWind)) (OA : Ok P w K mg base 5 "read_at" ["words"] (spRead readAt)) :
    Ok P w K mg base 6 "read_line" ["line"] spLine := by
  refine F.ok sc_read_line (fun vs H Q E h => ?_) (fun f cdv A outer s H vs Q E hr h => ?_)
  · obtain ⟨a, b, rfl, _⟩ := h
    rfl
  · obtain ⟨a, b, rfl, hb, hlen, k⟩ := h
    have h1 := hr.mono (show 1 ≤ 5 by decide)
    have h3 := hr.mono (show 3 ≤ 5 by decide)
    refine ⟨_, pss_cons (ps_set (i := 1) sc_read_line.nd rfl (Or.inl rfl) (pe_fn OC h1 (pa_cons (pv 0) (pa_cons (pe_gi T.c_BLANK) pa_nil))))
      (pss_cons (ps_if (pt_cmpR (op_eqD hr.units) (pe_ix ix_list (pv 1) pe_int (fun _ _ => rfl)) (pe_fn OS h1 (pa_cons (pe_gs T.c_BOAT_lines) pa_nil)) (nomark _)) (pss_one (ps_ret (pe_fn OB h3 (pa_cons (pe_slice sl_list (pv 1) (po_some pe_int) po_none) pa_nil)))) pss_nil)
      (pss_cons (ps_if (pt_cmpR (op_eqD hr.units) (pe_ix ix_list (pv 1) pe_int (fun _ _ => rfl)) (pe_fn OS h1 (pa_cons (pe_gs T.c_WIND) pa_nil)) (nomark _)) (pss_one (ps_ret (pe_fn OW hr (pa_cons (pe_slice sl_list (pv 1) (po_some pe_int) po_none) pa_nil)))) pss_nil)
      (pss_cons (ps_if (pt_cmpR (op_eqD hr.units) (pe_ix ix_list (pv 1) pe_int (fun _ _ => rfl)) (pe_fn OS h1 (pa_cons (pe_gs T.c_AT) pa_nil)) (nomark _)) (pss_one (ps_ret (pe_fn OA hr (pa_cons (pe_slice sl_list (pv 1) (po_some pe_int) po_none) pa_nil)))) pss_nil)
      (pss_one (ps_ret pe_non))))), ?_⟩
    refine ⟨_, rfl, a, b, 32, rfl, hb, hlen, fun H1 q s1 hq => ?_⟩
    obtain ⟨x, r, e⟩ := cutAt_head 32 b
    obtain ⟨c1, c2⟩ := cut_len 32 b
    unfold readLine at k
    rw [e] at hq k c1 c2
    replace k : ∀ (H' : Hp) (v : V), Same H H' → LineV (New H H') (if x = Rg.ascii "boat" then readBoat r else if x = Rg.ascii "wind" then readWind r else if x = Rg.ascii "at" then readAt r else none) v → Q v H' := k
    have hsh : Short r := ⟨by rw [List.length_cons] at c1; omega, fun y hy => Nat.le_trans (c2 y (List.mem_cons_of_mem _ hy)) hlen⟩
    obtain ⟨as, ha', hp⟩ := hq
    have ha := (New.inv ha').2
    cases hp with
    | cons p1 p2 =>
      rename_i c as
      have bytes : ∀ {H2 : Hp}, Same H1 H2 → H2 c = some (.lst ((x.map bI).map V.int)) := fun s2 => by
        rw [← bytes_ints]
        exact s2 _ _ (New.inv p1).2
      have rest : ∀ {H2 : Hp} {p : Addr}, Same H1 H2 → H2 p = none → WordsAt (New H (upd H2 p (.lst (cutV ((c :: as).map V.ref) (some 1) none)))) r p := fun {H2 p} s2 hp => by
        rw [cut_drop1]
        refine ⟨as, New.mk upd_same (s1.free (s2.free hp)), paired_mem p2 fun z _ y hy => ?_⟩
        have hz := s2 _ _ (New.inv hy).2
        refine New.mk ?_ (New.inv hy).1
        rw [upd_ne (ne_of_none hz hp)]
        exact hz
      refine ⟨_, rfl, q, _, _, V.ref c, rfl, rfl, SqL.of ha, atI_nat (j := 0) rfl, "boat", rfl, by decide, fun H2 q2 s2 hq2 => rEqL (bytes s2) hq2 ⟨_, rfl, ?_⟩⟩
      rw [ascii_ints "boat" "boat" (by decide +kernel)]
      by_cases hb1 : x = Rg.ascii "boat"
      · rw [if_pos hb1] at k
        rw [decide_eq_true hb1]
        exact iteT ⟨_, rfl, _, rfl, q, _, rfl, SqL.of (s2 _ _ ha), fun p hp => ⟨p, r, H, rfl, s1.trans (s2.trans (Same.new hp)), rest s2 hp, hsh, fun H3 v s3 hv => k _ _ (s1.trans (s2.trans ((Same.new hp).trans s3))) hv⟩⟩
      rw [if_neg hb1] at k
      rw [decide_eq_false hb1]
      refine iteF ⟨_, rfl, q, _, _, V.ref c, rfl, rfl, SqL.of (s2 _ _ ha), atI_nat (j := 0) rfl, "wind", rfl, by decide, fun H3 q3 s3 hq3 => rEqL (bytes (s2.trans s3)) hq3 ⟨_, rfl, ?_⟩⟩
      have s13 := s2.trans s3
      rw [ascii_ints "wind" "wind" (by decide +kernel)]
      by_cases hb2 : x = Rg.ascii "wind"
      · rw [if_pos hb2] at k
        rw [decide_eq_true hb2]
        exact iteT ⟨_, rfl, _, rfl, q, _, rfl, SqL.of (s13 _ _ ha), fun p hp => ⟨p, r, H, rfl, s1.trans (s13.trans (Same.new hp)), rest s13 hp, hsh, fun H4 v s4 hv => k _ _ (s1.trans (s13.trans ((Same.new hp).trans s4))) hv⟩⟩
      rw [if_neg hb2] at k
      rw [decide_eq_false hb2]
      refine iteF ⟨_, rfl, q, _, _, V.ref c, rfl, rfl, SqL.of (s13 _ _ ha), atI_nat (j := 0) rfl, "at", rfl, by decide, fun H4 q4 s4 hq4 => rEqL (bytes (s13.trans s4)) hq4 ⟨_, rfl, ?_⟩⟩
      have s14 := s13.trans s4
      rw [ascii_ints "at" "at" (by decide +kernel)]
      by_cases hb3 : x = Rg.ascii "at"
      · rw [if_pos hb3] at k
        rw [decide_eq_true hb3]
        exact iteT ⟨_, rfl, _, rfl, q, _, rfl, SqL.of (s14 _ _ ha), fun p hp => ⟨p, r, H, rfl, s1.trans (s14.trans (Same.new hp)), rest s14 hp, hsh, fun H5 v s5 hv => k _ _ (s1.trans (s14.trans ((Same.new hp).trans s5))) hv⟩⟩
      rw [if_neg hb3] at k
      rw [decide_eq_false hb3]
      exact iteF (k _ _ (s1.trans s14) rfl)
end
end Bl
end
section
set_option maxHeartbeats 2000000
namespace Bl
open PySem PySem.Spec PyProof.Rows L2
theorem putF_nil (f : Str) (v : V) : putF f v [] = [(f, v)] := rfl
theorem putF_eq (f : Str) (v x : V) (r : List (Str × V)) : putF f v ((f, x) :: r) = (f, v) :: r := by
  show (if f = f then _ else _) = _
  rw [if_pos rfl]
theorem putF_ne {f g : Str} (h : ¬ g = f) (v x : V) (r : List (Str × V)) : putF f v ((g, x) :: r) = (g, x) :: putF f v r := by
  show (if g = f then _ else _) = _
  rw [if_neg h]
theorem few_put {f : Str} {v : V} {fs : List (Str × V)} {k : Nat} (h : fs.length ≤ k) : (putF f v fs).length ≤ k + 1 := Nat.le_trans (length_putF f v fs) (by omega)
theorem few1 {f : Str} {v : V} : (putF f v []).length < 1000 := Nat.lt_of_le_of_lt (few_put (Nat.le_refl 0)) (by decide)
theorem few2 {f g : Str} {v u : V} : (putF g u (putF f v [])).length < 1000 := Nat.lt_of_le_of_lt (few_put (few_put (Nat.le_refl 0))) (by decide)
theorem few3 {f g h : Str} {v u x : V} : (putF h x (putF g u (putF f v []))).length < 1000 := Nat.lt_of_le_of_lt (few_put (few_put (few_put (Nat.le_refl 0)))) (by decide)
theorem few4 {f g h i : Str} {v u x y : V} : (putF i y (putF h x (putF g u (putF f v [])))).length < 1000 := Nat.lt_of_le_of_lt (few_put (few_put (few_put (few_put (Nat.le_refl 0))))) (by decide)
structure Cs (K : PySem.W.Frag) (CL CM CB : Addr) : Prop where
  cL : Cls K CL
  cM : Cls K CM
  cB : Cls K CB
  nW : NoAttr K CL "written"
  nL : NoAttr K CL "lines"
  nN : NoAttr K CL "names"
  nD : NoAttr K CL "winds"
  nM : NoAttr K CL "moments"
  mH : NoAttr K CM "hulls"
  mW : NoAttr K CM "wind"
  mT : NoAttr K CM "tacks"
  bL : NoAttr K CB "log"
section
variable {P : Program} {w : World} {K : PySem.W.Frag} {mg : Str → Option Value} {base : Heap} {CL CM CB : Addr}
def spMomInit (CM : Addr) : Sp := fun vs H Q _ => ∃ (p dx ah aw at_ : Addr), vs = [.ref p, .ref ah, .ref aw, .ref at_] ∧ H p = some (.ins CM dx []) ∧
  ∀ H' : Hp, H' p = some (.ins CM dx (momF ah aw at_)) → (∀ b o, H b = some o → b ≠ p → H' b = some o) → Q .non H'
theorem sc_mom_init : FnScope ["self", "hulls", "wind", "tacks"] ["self", "hulls", "wind", "tacks"] (defScope s_Moment_init) := ⟨rfl, rfl, rfl, by decide +kernel, rfl, by decide +kernel, by decide +kernel⟩
theorem momF_put (ah aw at_ : Addr) : putF "tacks" (.ref at_) (putF "wind" (.ref aw) (putF "hulls" (.ref ah) [])) = momF ah aw at_ := by
  rw [putF_nil, putF_ne (by decide +kernel), putF_nil, putF_ne (by decide +kernel), putF_ne (by decide +kernel), putF_nil]
  rfl
theorem ok_mom_init (F : FunC K mg CM "Moment" "Moment.__init__" s_Moment_init ["self", "hulls", "wind", "tacks"]) (C : Cs K CL CM CB) : OkC P w K mg base CM 1 "Moment" ["self", "hulls", "wind", "tacks"] (spMomInit CM) := by
  refine F.ok sc_mom_init (fun vs H Q E h => ?_) (fun f cdv A outer s H vs Q E hr h => ?_)
  · obtain ⟨p, dx, ah, aw, at_, rfl, _⟩ := h
    rfl
  · obtain ⟨p, dx, ah, aw, at_, rfl, hp, k⟩ := h
    refine ⟨_, pss_cons (ps_fld (pv 0) (pv 1) rfl) (pss_cons (ps_fld (pv 0) (pv 2) rfl) (pss_one (ps_fld (pv 0) (pv 3) rfl))), ?_⟩
    refine ⟨_, rfl, _, rfl, p, CM, dx, _, rfl, hp, C.cM, C.mH, (by decide), _, rfl, _, rfl, p, CM, dx, _, rfl, upd_same, C.cM, C.mW, few1, _, rfl, _, rfl, p, CM, dx, _, rfl, upd_same, C.cM, C.mT, few2, ?_⟩
    refine k _ ?_ fun b o e hb => ?_
    · rw [upd_same, momF_put]
    · rw [upd_ne hb, upd_ne hb, upd_ne hb]
      exact e
theorem logF_put (aw an ad am : Addr) (n : Nat) : putF "moments" (.ref am) (putF "winds" (.ref ad) (putF "names" (.ref an) (putF "lines" (.int n) (putF "written" (.ref aw) [])))) = logF aw n an ad am := by
  have h1 : putF "lines" (.int n) [("written", V.ref aw)] = ([("written", V.ref aw), ("lines", V.int n)] : List (Str × V)) := by rw [putF_ne (by decide +kernel), putF_nil]
  have h2 : putF "names" (.ref an) [("written", V.ref aw), ("lines", V.int n)] = ([("written", V.ref aw), ("lines", V.int n), ("names", V.ref an)] : List (Str × V)) := by rw [putF_ne (by decide +kernel), putF_ne (by decide +kernel), putF_nil]
  have h3 : putF "winds" (.ref ad) [("written", V.ref aw), ("lines", V.int n), ("names", V.ref an)] = ([("written", V.ref aw), ("lines", V.int n), ("names", V.ref an), ("winds", V.ref ad)] : List (Str × V)) := by rw [putF_ne (by decide +kernel), putF_ne (by decide +kernel), putF_ne (by decide +kernel), putF_nil]
  rw [putF_nil, h1, h2, h3, putF_ne (by decide +kernel), putF_ne (by decide +kernel), putF_ne (by decide +kernel), putF_ne (by decide +kernel), putF_nil]
  rfl
def spLogInit (CL CM : Addr) : Sp := fun vs H Q _ => ∃ (p dx : Addr), vs = [.ref p] ∧ H p = some (.ins CL dx []) ∧
  ∀ (H' : Hp) (aw an ad am : Addr), [p, aw, an, ad, am].Nodup → (∀ b ∈ [aw, an, ad, am], H b = none) → H' p = some (.ins CL dx (logF aw 0 an ad am)) → H' aw = some (.lst []) → H' an = some (.lst []) → H' ad = some (.lst []) → H' am = some (.lst []) →
    (∀ b o, H b = some o → b ≠ p → H' b = some o) → Q .non H'
theorem sc_log_init : FnScope ["self"] ["self"] (defScope s_Log_init) := ⟨rfl, rfl, rfl, by decide +kernel, rfl, by decide +kernel, by decide +kernel⟩
theorem ok_log_init (F : FunC K mg CL "Log" "Log.__init__" s_Log_init ["self"]) (C : Cs K CL CM CB) : OkC P w K mg base CL 1 "Log" ["self"] (spLogInit CL CM) := by
  refine F.ok sc_log_init (fun vs H Q E h => ?_) (fun f cdv A outer s H vs Q E hr h => ?_)
  · obtain ⟨p, dx, rfl, _⟩ := h
    rfl
  · obtain ⟨p, dx, rfl, hp, k⟩ := h
    refine ⟨_, pss_cons (ps_fld (pv 0) (pe_lst pa_nil) rfl) (pss_cons (ps_fld (pv 0) pe_int rfl) (pss_cons (ps_fld (pv 0) (pe_lst pa_nil) rfl) (pss_cons (ps_fld (pv 0) (pe_lst pa_nil) rfl) (pss_one (ps_fld (pv 0) (pe_lst pa_nil) rfl))))), ?_⟩
    refine ⟨Nat.zero_le _, fun aw hw => ?_⟩
    have pw : p ≠ aw := ne_of_none hp hw
    refine ⟨_, rfl, p, CL, dx, _, rfl, (by rw [upd_ne pw]; exact hp), C.cL, C.nW, (by decide), ?_⟩
    refine ⟨_, rfl, p, CL, dx, _, rfl, upd_same, C.cL, C.nL, few1, ?_⟩
    refine ⟨Nat.zero_le _, fun an hn => ?_⟩
    have pn : p ≠ an := ne_of_none upd_same hn
    rw [upd_ne (Ne.symm pn), upd_ne (Ne.symm pn)] at hn
    have wn : aw ≠ an := ne_of_none upd_same hn
    refine ⟨_, rfl, p, CL, dx, _, rfl, (by rw [upd_ne pn]; exact upd_same), C.cL, C.nN, few2, ?_⟩
    refine ⟨Nat.zero_le _, fun ad hd => ?_⟩
    have pd : p ≠ ad := ne_of_none upd_same hd
    rw [upd_ne (Ne.symm pd)] at hd
    have nd : an ≠ ad := ne_of_none upd_same hd
    rw [upd_ne (Ne.symm nd), upd_ne (Ne.symm pd), upd_ne (Ne.symm pd)] at hd
    have wd : aw ≠ ad := ne_of_none upd_same hd
    refine ⟨_, rfl, p, CL, dx, _, rfl, (by rw [upd_ne pd]; exact upd_same), C.cL, C.nD, few3, ?_⟩
    refine ⟨Nat.zero_le _, fun am hm => ?_⟩
    have pm : p ≠ am := ne_of_none upd_same hm
    rw [upd_ne (Ne.symm pm)] at hm
    have dm : ad ≠ am := ne_of_none upd_same hm
    rw [upd_ne (Ne.symm dm), upd_ne (Ne.symm pm)] at hm
    have nm : an ≠ am := ne_of_none upd_same hm
    rw [upd_ne (Ne.symm nm), upd_ne (Ne.symm pm), upd_ne (Ne.symm pm)] at hm
    have wm : aw ≠ am := ne_of_none upd_same hm
    refine ⟨_, rfl, p, CL, dx, _, rfl, (by rw [upd_ne pm]; exact upd_same), C.cL, C.nM, few4, ?_⟩
    rw [upd_ne (Ne.symm wn)] at hn
    rw [upd_ne (Ne.symm wd)] at hd
    rw [upd_ne (Ne.symm wm)] at hm
    refine k _ aw an ad am ?_ ?_ ?_ ?_ ?_ ?_ ?_ ?_
    · simp [pw, pn, pd, pm, wn, wd, wm, nd, nm, dm]
    · intro b hb
      simp at hb
      rcases hb with rfl | rfl | rfl | rfl
      · exact hw
      · exact hn
      · exact hd
      · exact hm
    · rw [upd_same]
      exact congrArg (fun q => some (HO.ins CL dx q)) (logF_put aw an ad am 0)
    · rw [upd_ne (Ne.symm pw), upd_ne wm, upd_ne (Ne.symm pw), upd_ne wd, upd_ne (Ne.symm pw), upd_ne wn, upd_ne (Ne.symm pw), upd_ne (Ne.symm pw), upd_same]
    · rw [upd_ne (Ne.symm pn), upd_ne nm, upd_ne (Ne.symm pn), upd_ne nd, upd_ne (Ne.symm pn), upd_same]
    · rw [upd_ne (Ne.symm pd), upd_ne dm, upd_ne (Ne.symm pd), upd_same]
    · rw [upd_ne (Ne.symm pm), upd_same]
    · intro b o e hb
      rw [upd_ne hb, upd_ne (ne_of_none e hm), upd_ne hb, upd_ne (ne_of_none e hd), upd_ne hb, upd_ne (ne_of_none e hn), upd_ne hb, upd_ne hb, upd_ne (ne_of_none e hw)]
      exact e
end
end Bl
end
section
set_option maxHeartbeats 2000000
namespace Bl
open PySem PySem.Spec PyProof.Rows L2
theorem logF_w (aw an ad am x : Addr) (n : Nat) : putF "written" (.ref x) (logF aw n an ad am) = logF x n an ad am := putF_eq _ _ _ _
theorem logF_l (aw an ad am : Addr) (n m : Nat) : putF "lines" (.int m) (logF aw n an ad am) = logF aw m an ad am := by
  unfold logF
  rw [putF_ne (by decide +kernel), putF_eq]
theorem logF_n (aw an ad am x : Addr) (n : Nat) : putF "names" (.ref x) (logF aw n an ad am) = logF aw n x ad am := by
  unfold logF
  rw [putF_ne (by decide +kernel), putF_ne (by decide +kernel), putF_eq]
theorem logF_d (aw an ad am x : Addr) (n : Nat) : putF "winds" (.ref x) (logF aw n an ad am) = logF aw n an x am := by
  unfold logF
  rw [putF_ne (by decide +kernel), putF_ne (by decide +kernel), putF_ne (by decide +kernel), putF_eq]
theorem logF_m (aw an ad am x : Addr) (n : Nat) : putF "moments" (.ref x) (logF aw n an ad am) = logF aw n an ad x := by
  unfold logF
  rw [putF_ne (by decide +kernel), putF_ne (by decide +kernel), putF_ne (by decide +kernel), putF_ne (by decide +kernel), putF_eq]
theorem lk_w {aw an ad am : Addr} {n : Nat} : (logF aw n an ad am).lookup ("written" : Str) = some (V.ref aw) := rfl
theorem lk_l {aw an ad am : Addr} {n : Nat} : (logF aw n an ad am).lookup ("lines" : Str) = some (V.int n) := rfl
theorem lk_n {aw an ad am : Addr} {n : Nat} : (logF aw n an ad am).lookup ("names" : Str) = some (V.ref an) := rfl
theorem lk_d {aw an ad am : Addr} {n : Nat} : (logF aw n an ad am).lookup ("winds" : Str) = some (V.ref ad) := rfl
theorem lk_m {aw an ad am : Addr} {n : Nat} : (logF aw n an ad am).lookup ("moments" : Str) = some (V.ref am) := rfl
theorem few_log {aw an ad am : Addr} {n : Nat} : (logF aw n an ad am).length < 1000 := by show 5 < 1000; decide
theorem copy_keep {H : Hp} {q x : Addr} {o u : HO} (h : H x = none) : Keep [q] H (upd (upd H x o) q u) := fun b v e hb => by
  rw [upd_ne (fun z => hb (by rw [z]; exact List.mem_cons_self)), upd_ne (ne_of_none e h)]
  exact e
theorem copy_new {H : Hp} {q x : Addr} {o u : HO} (h : q ≠ x) : (upd (upd H x o) q u) x = some o := by
  rw [upd_ne (Ne.symm h), upd_same]
section
variable {P : Program} {w : World} {K : PySem.W.Frag} {mg : Str → Option Value} {base : Heap} {CL CM CB : Addr}
def spCopied (CL CM : Addr) : Sp := fun vs H Q _ => ∃ (p : Addr) (S M : List Addr) (wr : Rg.Bytes) (n : Nat) (l : Rg.Log), vs = [.ref p] ∧ LogAt CL CM S H p M wr n l ∧
  ∀ (H' : Hp) (q : Addr) (M' : List Addr), Same H H' → (∀ b ∈ M', H b = none) → LogAt CL CM S H' q M' wr n l → Q (.ref q) H'
theorem sc_copied : FnScope ["self", "log"] ["self"] (defScope s_Log_copied) := ⟨rfl, rfl, rfl, by decide +kernel, rfl, by decide +kernel, by decide +kernel⟩
theorem ok_copied (F : FunM K CL "copied" "Log.copied" s_Log_copied ["self"]) (T : Txt mg) (C : Cs K CL CM CB) (O : OkC P w K mg base CL 1 "Log" ["self"] (spLogInit CL CM)) : OkM P w K mg base CL 3 "copied" ["self"] (spCopied CL CM) := by
  refine F.ok sc_copied (fun vs H Q E h => ?_) (fun f cdv A outer s H vs Q E hr h => ?_)
  · obtain ⟨p, S, M, wr, n, l, rfl, _⟩ := h
    rfl
  · obtain ⟨p, S, M, wr, n, l, rfl, L, k⟩ := h
    refine ⟨_, pss_cons (ps_set (i := 1) sc_copied.nd rfl (Or.inl rfl) (pe_mk0 O hr))
      (pss_cons (ps_fld (pv 1) (pe_callTy call_list_of rfl T.b_list boot_list0 (pa_cons (pe_fld (pv 0) rfl) pa_nil)) rfl)
      (pss_cons (ps_fld (pv 1) (pe_fld (pv 0) rfl) rfl)
      (pss_cons (ps_fld (pv 1) (pe_callTy call_list_of rfl T.b_list boot_list0 (pa_cons (pe_fld (pv 0) rfl) pa_nil)) rfl)
      (pss_cons (ps_fld (pv 1) (pe_callTy call_list_of rfl T.b_list boot_list0 (pa_cons (pe_fld (pv 0) rfl) pa_nil)) rfl)
      (pss_cons (ps_fld (pv 1) (pe_callTy call_list_of rfl T.b_list boot_list0 (pa_cons (pe_fld (pv 0) rfl) pa_nil)) rfl)
      (pss_one (ps_ret (pv 1)))))))), ?_⟩
    obtain ⟨dx, aw, an, ad, am, rfl, h1, h2, ⟨as, h3, h3'⟩, ⟨ws, h4, h4'⟩, ⟨ms, h5, h5'⟩⟩ := L.ex
    intro q dq nq ndq neq
    refine ⟨q, dq, rfl, upd_same, fun H1 bw bn bd bm hnd hfr e1 e2 e3 e4 e5 kp => ⟨rfl, ?_⟩⟩
    have s1 : Same H H1 := Same.made nq ndq kp
    have pq : p ∉ [q] := fun z => ne_of_none h1 nq (List.mem_singleton.mp z)
    have old : ∀ {b : Addr} {o : HO}, H b = some o → b ∉ [q] := fun e z => ne_of_none e nq (List.mem_singleton.mp z)
    refine ⟨_, rfl, p, CL, dx, _, _, rfl, s1 _ _ h1, C.cL, C.nW, lk_w, aw, _, rfl, .inl (SqL.of (s1 _ _ h2)), fun x1 hx1 => ?_⟩
    have q1 : q ≠ x1 := ne_of_none e1 hx1
    refine ⟨_, rfl, q, CL, dq, _, rfl, (by rw [upd_ne q1]; exact e1), C.cL, C.nW, few_log, ?_⟩
    rw [logF_w]
    have kA : Keep [q] H1 _ := copy_keep hx1 (o := .lst (wr.map bV)) (u := .ins CL dq (logF x1 0 bn bd bm))
    have vA := copy_new q1 (H := H1) (o := .lst (wr.map bV)) (u := .ins CL dq (logF x1 0 bn bd bm))
    generalize hHA : upd (upd H1 x1 (.lst (wr.map bV))) q (.ins CL dq (logF x1 0 bn bd bm)) = HA at kA vA ⊢
    have eA : HA q = some (.ins CL dq (logF x1 0 bn bd bm)) := by rw [← hHA]; exact upd_same
    refine ⟨_, rfl, p, CL, dx, _, _, rfl, kA _ _ (s1 _ _ h1) pq, C.cL, C.nL, lk_l, _, rfl, q, CL, dq, _, rfl, eA, C.cL, C.nL, few_log, ?_⟩
    rw [logF_l]
    have kB : Keep [q] HA (upd HA q (.ins CL dq (logF x1 n bn bd bm))) := Keep.refl.upd List.mem_cons_self
    generalize hHB : upd HA q (.ins CL dq (logF x1 n bn bd bm)) = HB at kB ⊢
    have eB : HB q = some (.ins CL dq (logF x1 n bn bd bm)) := by rw [← hHB]; exact upd_same
    have kB1 : Keep [q] H1 HB := kA.trans kB
    refine ⟨_, rfl, p, CL, dx, _, _, rfl, kB1 _ _ (s1 _ _ h1) pq, C.cL, C.nN, lk_n, an, _, rfl, .inl (SqL.of (kB1 _ _ (s1 _ _ h3) (old h3))), fun x2 hx2 => ?_⟩
    have q2 : q ≠ x2 := ne_of_none eB hx2
    refine ⟨_, rfl, q, CL, dq, _, rfl, (by rw [upd_ne q2]; exact eB), C.cL, C.nN, few_log, ?_⟩
    rw [logF_n]
    have kC : Keep [q] HB _ := copy_keep hx2 (o := .lst (as.map V.ref)) (u := .ins CL dq (logF x1 n x2 bd bm))
    have vC := copy_new q2 (H := HB) (o := .lst (as.map V.ref)) (u := .ins CL dq (logF x1 n x2 bd bm))
    generalize hHC : upd (upd HB x2 (.lst (as.map V.ref))) q (.ins CL dq (logF x1 n x2 bd bm)) = HC at kC vC ⊢
    have eC : HC q = some (.ins CL dq (logF x1 n x2 bd bm)) := by rw [← hHC]; exact upd_same
    have kC1 : Keep [q] H1 HC := kB1.trans kC
    refine ⟨_, rfl, p, CL, dx, _, _, rfl, kC1 _ _ (s1 _ _ h1) pq, C.cL, C.nD, lk_d, ad, _, rfl, .inl (SqL.of (kC1 _ _ (s1 _ _ h4) (old h4))), fun x3 hx3 => ?_⟩
    have q3 : q ≠ x3 := ne_of_none eC hx3
    refine ⟨_, rfl, q, CL, dq, _, rfl, (by rw [upd_ne q3]; exact eC), C.cL, C.nD, few_log, ?_⟩
    rw [logF_d]
    have kD : Keep [q] HC _ := copy_keep hx3 (o := .lst (ws.map V.ref)) (u := .ins CL dq (logF x1 n x2 x3 bm))
    have vD := copy_new q3 (H := HC) (o := .lst (ws.map V.ref)) (u := .ins CL dq (logF x1 n x2 x3 bm))
    generalize hHD : upd (upd HC x3 (.lst (ws.map V.ref))) q (.ins CL dq (logF x1 n x2 x3 bm)) = HD at kD vD ⊢
    have eD : HD q = some (.ins CL dq (logF x1 n x2 x3 bm)) := by rw [← hHD]; exact upd_same
    have kD1 : Keep [q] H1 HD := kC1.trans kD
    refine ⟨_, rfl, p, CL, dx, _, _, rfl, kD1 _ _ (s1 _ _ h1) pq, C.cL, C.nM, lk_m, am, _, rfl, .inl (SqL.of (kD1 _ _ (s1 _ _ h5) (old h5))), fun x4 hx4 => ?_⟩
    have q4 : q ≠ x4 := ne_of_none eD hx4
    refine ⟨_, rfl, q, CL, dq, _, rfl, (by rw [upd_ne q4]; exact eD), C.cL, C.nM, few_log, ?_⟩
    rw [logF_m]
    have kE : Keep [q] HD _ := copy_keep hx4 (o := .lst (ms.map V.ref)) (u := .ins CL dq (logF x1 n x2 x3 x4))
    have vE := copy_new q4 (H := HD) (o := .lst (ms.map V.ref)) (u := .ins CL dq (logF x1 n x2 x3 x4))
    generalize hHE : upd (upd HD x4 (.lst (ms.map V.ref))) q (.ins CL dq (logF x1 n x2 x3 x4)) = HE at kE vE ⊢
    have eE : HE q = some (.ins CL dq (logF x1 n x2 x3 x4)) := by rw [← hHE]; exact upd_same
    have kE1 : Keep [q] H1 HE := kD1.trans kE
    have sE : Same H HE := fun b o e => kE1 _ _ (s1 _ _ e) (old e)
    have nq1 : ∀ {x : Addr}, q ≠ x → x ∉ [q] := fun h z => h (List.mem_singleton.mp z).symm
    have f1 : ∀ {b : Addr} {o : HO}, H b = some o → b ≠ x1 := fun e => ne_of_none (s1 _ _ e) hx1
    have f2 : ∀ {b : Addr} {o : HO}, H b = some o → b ≠ x2 := fun e => ne_of_none (kB1 _ _ (s1 _ _ e) (old e)) hx2
    have f3 : ∀ {b : Addr} {o : HO}, H b = some o → b ≠ x3 := fun e => ne_of_none (kC1 _ _ (s1 _ _ e) (old e)) hx3
    have f4 : ∀ {b : Addr} {o : HO}, H b = some o → b ≠ x4 := fun e => ne_of_none (kD1 _ _ (s1 _ _ e) (old e)) hx4
    have n12 : x1 ≠ x2 := ne_of_none (kB _ _ vA (nq1 q1)) hx2
    have n13 : x1 ≠ x3 := ne_of_none (kC _ _ (kB _ _ vA (nq1 q1)) (nq1 q1)) hx3
    have n14 : x1 ≠ x4 := ne_of_none (kD _ _ (kC _ _ (kB _ _ vA (nq1 q1)) (nq1 q1)) (nq1 q1)) hx4
    have n23 : x2 ≠ x3 := ne_of_none vC hx3
    have n24 : x2 ≠ x4 := ne_of_none (kD _ _ vC (nq1 q2)) hx4
    have n34 : x3 ≠ x4 := ne_of_none vD hx4
    have offM : ∀ {b : Addr} {o : HO}, H b = some o → b ∉ [q, x1, x2, x3, x4] := fun e z => by
      rcases List.mem_cons.mp z with z | z
      · exact ne_of_none e nq z
      rcases List.mem_cons.mp z with z | z
      · exact f1 e z
      rcases List.mem_cons.mp z with z | z
      · exact f2 e z
      rcases List.mem_cons.mp z with z | z
      · exact f3 e z
      · exact f4 e (List.mem_singleton.mp z)
    have frM : ∀ b ∈ [q, x1, x2, x3, x4], H b = none := fun b hb => by
      cases e : H b with
      | none => rfl
      | some o => exact absurd hb (offM e)
    have so : Same (Off ([p, aw, an, ad, am] ++ S) H) (Off ([q, x1, x2, x3, x4] ++ S) HE) := fun b o e => by
      obtain ⟨g1, g2⟩ := Off.inv e
      refine Off.mk (sE _ _ g2) fun z => ?_
      rcases List.mem_append.mp z with z | z
      · exact offM g2 z
      · exact g1 (List.mem_append_right _ z)
    refine ⟨_, rfl, k HE q [q, x1, x2, x3, x4] sE frM ⟨⟨dq, x1, x2, x3, x4, rfl, eE, ?_, ⟨as, ?_, ?_⟩, ⟨ws, ?_, ?_⟩, ⟨ms, vE, ?_⟩⟩, ?_, ?_, ?_⟩⟩
    · exact kE _ _ (kD _ _ (kC _ _ (kB _ _ vA (nq1 q1)) (nq1 q1)) (nq1 q1)) (nq1 q1)
    · exact kE _ _ (kD _ _ vC (nq1 q2)) (nq1 q2)
    · exact paired_mem h3' fun a _ b r => BytesAt.same so r
    · exact kE _ _ vD (nq1 q3)
    · exact paired_mem h4' fun a _ b r => PtAt.same so r
    · exact paired_mem h5' fun a _ b r => MomAt.same so r
    · simp [q1, q2, q3, q4, n12, n13, n14, n23, n24, n34]
    · intro b hb hS
      obtain ⟨o, ho⟩ := L.live b hS
      rw [frM b hb] at ho
      cases ho
    · intro b hb
      obtain ⟨o, ho⟩ := L.live b hb
      exact ⟨o, sE _ _ ho⟩
end
end Bl
end
section
set_option maxHeartbeats 2000000
namespace Bl
open PySem PySem.Spec PyProof.Rows L2
theorem units65 {k : Nat} {A : Around} (r : Room k A) : A.units + 65 < cLine := by have := r.un; omega
theorem nd5 {p a b c d : Addr} (h : [p, a, b, c, d].Nodup) : p ≠ a ∧ p ≠ b ∧ p ≠ c ∧ p ≠ d ∧ a ≠ b ∧ a ≠ c ∧ a ≠ d ∧ b ≠ c ∧ b ≠ d ∧ c ≠ d := by
  simp only [List.nodup_cons, List.mem_cons, List.not_mem_nil, or_false, not_or, not_false_eq_true, List.nodup_nil, and_true] at h
  obtain ⟨⟨h1, h2, h3, h4⟩, ⟨h5, h6, h7⟩, ⟨h8, h9⟩, h10⟩ := h
  exact ⟨h1, h2, h3, h4, h5, h6, h7, h8, h9, h10⟩
theorem paired_mapR {α β γ : Type} {R : α → β → Prop} {S : α → γ → Prop} (f : β → γ) : ∀ {as : List α} {bs : List β}, Paired R as bs → (∀ a b, R a b → S a (f b)) → Paired S as (bs.map f)
  | _, _, .nil, _ => .nil
  | _, _, .cons r t, h => .cons (h _ _ r) (paired_mapR f t h)
theorem map_ref_inj : ∀ {n m : List Addr}, m.map V.ref = n.map V.ref → m = n
  | [], [], _ => rfl
  | [], _ :: _, h => by cases h
  | _ :: _, [], h => by cases h
  | a :: n, b :: m, h => by
    rw [List.map_cons, List.map_cons] at h
    obtain ⟨h1, h2⟩ := List.cons.inj h
    rw [V.ref.inj h1, map_ref_inj h2]
theorem any_bytes (n : Rg.Bytes) : ∀ bs : List Rg.Bytes, (bs.map (·.map bI)).any (fun m => decide (m = n.map bI)) = bs.contains n
  | [] => rfl
  | b :: r => by
    rw [List.map_cons, List.any_cons, any_bytes n r, List.contains_cons]
    congr 1
    rw [Bool.eq_iff_iff, decide_eq_true_iff, beq_iff_eq]
    constructor
    · intro h; exact (bI_inj.mp h).symm
    · intro h; rw [h]
theorem momsOf_boat {l : Rg.Log} (F : Fit l) (hw : Rg.winds l = []) (n : Rg.Bytes) : momsOf (l ++ [.boat n]) = momsOf l := by
  have hm : Rg.moments l = [] := allBoat_moments (F.first hw)
  have hm2 : Rg.moments (l ++ [.boat n]) = [] := by rw [moments_snoc, hm]; rfl
  unfold momsOf
  rw [hm, hm2]
  rfl
theorem momsOf_wind (l : Rg.Log) (u : Rg.Pt) : momsOf (l ++ [.wind u]) = momsOf l := by
  have e1 : Rg.boats (l ++ [.wind u]) = Rg.boats l := by rw [boats_append]; exact List.append_nil _
  have e2 : Rg.moments (l ++ [.wind u]) = Rg.moments l := by rw [moments_snoc]; exact List.append_nil _
  unfold momsOf tacksOf
  rw [e1, e2]
section
variable {P : Program} {w : World} {K : PySem.W.Frag} {mg : Str → Option Value} {base : Heap} {CL CM CB : Addr}
def Added (CL CM : Addr) (S : List Addr) (H : Hp) (p : Addr) (M : List Addr) (wr : Rg.Bytes) (n : Nat) (l : Rg.Log) (x : Rg.LogLine) (Q : VK) : Prop :=
  ∀ H' : Hp, Keep M H H' → LogAt CL CM S H' p M wr n (if Rg.wrongOf l x = 0 then l ++ [x] else l) → Q (.int (Rg.wrongOf l x : Nat)) H'
theorem Added.no {S : List Addr} {H H' : Hp} {p : Addr} {M : List Addr} {wr : Rg.Bytes} {n : Nat} {l : Rg.Log} {x : Rg.LogLine} {Q : VK} {y : Nat} (k : Added CL CM S H p M wr n l x Q) (e : Rg.wrongOf l x = y) (hy : y ≠ 0) (s : Same H H') (L : LogAt CL CM S H p M wr n l) : Q (.int (y : Nat)) H' := by
  have := k H' (Keep.of s) (by rw [e, if_neg hy]; exact L.same s)
  rw [e] at this
  exact this
def spAddBoat (CL CM : Addr) : Sp := fun vs H Q _ => ∃ (p c : Addr) (S M : List Addr) (wr : Rg.Bytes) (n : Nat) (l : Rg.Log) (b : Rg.Bytes), vs = [.ref p, .ref c] ∧ LogAt CL CM S H p M wr n l ∧ Fit l ∧ BytesAt (Off (M ++ S) H) b c ∧ Added CL CM S H p M wr n l (.boat b) Q
theorem sc_add_boat : FnScope ["self", "name"] ["self", "name"] (defScope s_Log_add_boat) := ⟨rfl, rfl, rfl, by decide +kernel, rfl, by decide +kernel, by decide +kernel⟩
theorem ok_add_boat (F : FunM K CL "add_boat" "Log.add_boat" s_Log_add_boat ["self", "name"]) (T : Txt mg) (C : Cs K CL CM CB) : OkM P w K mg base CL 2 "add_boat" ["self", "name"] (spAddBoat CL CM) := by
  refine F.ok sc_add_boat (fun vs H Q E h => ?_) (fun f cdv A outer s H vs Q E hr h => ?_)
  · obtain ⟨p, c, S, M, wr, n, l, b, rfl, _⟩ := h
    rfl
  · obtain ⟨p, c, S, M, wr, n, l, b, rfl, L, Ft, hb, k⟩ := h
    have hu := units65 hr
    refine ⟨_, pss_cons (ps_if (pt_cmpR op_gt (pe_len T.b_len (pe_fld (pv 0) rfl)) pe_int (nomark _)) (pss_one (ps_ret (pe_gi T.c_CANNOT_STAND))) pss_nil)
      (pss_cons (ps_if (pt_cmpR (op_inL hu) (pv 1) (pe_fld (pv 0) rfl) (by with_unfolding_all rfl)) (pss_one (ps_ret (pe_gi T.c_CLASHES))) pss_nil)
      (pss_cons (ps_if (pt_cmpR op_eq (pe_len T.b_len (pe_fld (pv 0) rfl)) (pe_gi T.c_MOST_BOATS) (nomark _)) (pss_one (ps_ret (pe_gi T.c_TOO_MUCH))) pss_nil)
      (pss_cons (ps_expr (pe_app (pe_fld (pv 0) rfl) (pv 1)))
      (pss_one (ps_ret (pe_gi T.c_NO_FAULT)))))), ?_⟩
    obtain ⟨dx, aw, an, ad, am, rfl, h1, h2, ⟨as, h3, h3'⟩, ⟨ws, h4, h4'⟩, ⟨ms, h5, h5'⟩⟩ := L.ex
    have ew := wrong_boat Ft b
    refine ⟨_, rfl, p, CL, dx, _, _, rfl, h1, C.cL, C.nD, lk_d, ad, _, rfl, .inl (SqL.of h4), _, _, rfl, rfl, _, rfl, ?_⟩
    rw [List.length_map, h4'.length]
    by_cases hw : (Rg.winds l).length > 0
    · rw [if_pos hw] at ew
      rw [decide_eq_true (show (0 : Int) < ((Rg.winds l).length : Int) by omega)]
      exact iteT (k.no ew (by decide) (Same.refl _) L)
    rw [if_neg hw] at ew
    rw [decide_eq_false (show ¬ (0 : Int) < ((Rg.winds l).length : Int) by omega)]
    have hw0 : Rg.winds l = [] := List.length_eq_zero_iff.mp (by omega)
    have hb' := (Off.inv hb).2
    refine iteF ⟨_, rfl, _, rfl, p, CL, dx, _, _, rfl, h1, C.cL, C.nN, lk_n, an, as, c, b.map bI, (Rg.boats l).map (·.map bI), rfl, rfl, h3, (by rw [← bytes_ints]; exact hb'), paired_mapR _ h3' (fun a x r => by rw [← bytes_ints]; exact (Off.inv r).2), _, rfl, ?_⟩
    rw [any_bytes]
    by_cases hc : (Rg.boats l).contains b = true
    · rw [if_pos hc] at ew
      rw [hc]
      exact iteT (k.no ew (by decide) (Same.refl _) L)
    rw [if_neg hc] at ew
    rw [Bool.eq_false_iff.mpr hc]
    refine iteF ⟨_, rfl, p, CL, dx, _, _, rfl, h1, C.cL, C.nN, lk_n, an, _, rfl, .inl (SqL.of h3), rfl, _, rfl, ?_⟩
    rw [List.length_map, h3'.length]
    by_cases h64 : (Rg.boats l).length = 64
    · rw [if_pos h64] at ew
      rw [decide_eq_true (show V.int ((Rg.boats l).length : Int) = V.int 64 by rw [h64]; rfl)]
      exact iteT (k.no ew (by decide) (Same.refl _) L)
    rw [if_neg h64] at ew
    rw [decide_eq_false (show ¬ V.int ((Rg.boats l).length : Int) = V.int 64 from fun z => h64 (by have := V.int.inj z; omega))]
    have hnb := Ft.nb
    refine iteF ⟨_, rfl, p, CL, dx, _, _, rfl, h1, C.cL, C.nN, lk_n, .inl ⟨rfl, _, SqL.of h3⟩, _, rfl, an, _, _, rfl, rfl, h3, (by rw [List.length_map, h3'.length]; exact line_lt (by omega)), ?_⟩
    have inM : an ∈ [p, aw, an, ad, am] := by simp
    have nd := L.nd
    obtain ⟨pw, pn, pd, pm, wn, wd, wm, nd', nm, dm⟩ := nd5 nd
    have key := k (upd H an (.lst (as.map V.ref ++ [.ref c]))) (Keep.refl.upd inM)
    rw [ew] at key
    refine key ?_
    rw [if_pos rfl]
    have eo : Off ([p, aw, an, ad, am] ++ S) (upd H an (.lst (as.map V.ref ++ [.ref c]))) = Off ([p, aw, an, ad, am] ++ S) H := Off.upd (List.mem_append_left _ inM)
    refine ⟨⟨dx, aw, an, ad, am, rfl, by rw [upd_ne pn]; exact h1, by show upd _ _ _ _ = _; rw [upd_ne wn]; exact h2, ⟨as ++ [c], by rw [upd_same, List.map_append]; rfl, ?_⟩, ⟨ws, by rw [upd_ne (Ne.symm nd')]; exact h4, ?_⟩, ⟨ms, by rw [upd_ne (Ne.symm nm)]; exact h5, ?_⟩⟩, L.nd, L.ns, fun z hz => ?_⟩
    · rw [boats_append, eo]
      exact h3'.snoc hb
    · rw [winds_append, eo]
      show Paired _ ws (Rg.winds l ++ [])
      rw [List.append_nil]
      exact h4'
    · rw [momsOf_boat Ft hw0, eo]
      exact h5'
    · obtain ⟨o, ho⟩ := L.live z hz
      refine ⟨o, ?_⟩
      rw [upd_ne (fun q => L.ns an inM (by rw [← q]; exact hz))]
      exact ho
def pI (p : Rg.Pt) : List Int := [p.x, p.y]
theorem pI_inj {p q : Rg.Pt} : pI p = pI q ↔ p = q := by
  constructor
  · intro h
    cases p; cases q
    simp [pI] at h
    simp [h]
  · intro h; rw [h]
theorem last_any (u : Rg.Pt) (ps : List Rg.Pt) : ((ps.drop (ps.length - 1)).map pI).any (fun m => decide (m = pI u)) = decide (ps.getLast? = some u) := by
  cases h : ps.getLast? with
  | none =>
    have e := List.getLast?_eq_none_iff.mp h
    subst e
    rfl
  | some q =>
    obtain ⟨r, rfl⟩ : ∃ r, ps = r ++ [q] := by
      have hne : ps ≠ [] := by intro e; rw [e] at h; cases h
      refine ⟨ps.dropLast, ?_⟩
      rw [List.getLast?_eq_some_getLast hne] at h
      rw [← Option.some.inj h]
      exact (List.dropLast_concat_getLast hne).symm
    rw [show (r ++ [q]).length - 1 = r.length by rw [List.length_append]; rfl, List.drop_left]
    show (decide (pI q = pI u) || false) = _
    rw [Bool.or_false, Bool.eq_iff_iff, decide_eq_true_iff, decide_eq_true_iff]
    constructor
    · intro e; rw [pI_inj.mp e]
    · intro e; rw [Option.some.inj e]
def spAddWind (CL CM : Addr) : Sp := fun vs H Q _ => ∃ (p c : Addr) (S M : List Addr) (wr : Rg.Bytes) (n : Nat) (l : Rg.Log) (u : Rg.Pt), vs = [.ref p, .ref c] ∧ LogAt CL CM S H p M wr n l ∧ Fit l ∧ PtAt (Off (M ++ S) H) u c ∧ Added CL CM S H p M wr n l (.wind u) Q
theorem sc_add_wind : FnScope ["self", "wind"] ["self", "wind"] (defScope s_Log_add_wind) := ⟨rfl, rfl, rfl, by decide +kernel, rfl, by decide +kernel, by decide +kernel⟩
theorem ok_add_wind (F : FunM K CL "add_wind" "Log.add_wind" s_Log_add_wind ["self", "wind"]) (T : Txt mg) (C : Cs K CL CM CB) : OkM P w K mg base CL 2 "add_wind" ["self", "wind"] (spAddWind CL CM) := by
  refine F.ok sc_add_wind (fun vs H Q E h => ?_) (fun f cdv A outer s H vs Q E hr h => ?_)
  · obtain ⟨p, c, S, M, wr, n, l, u, rfl, _⟩ := h
    rfl
  · obtain ⟨p, c, S, M, wr, n, l, u, rfl, L, Ft, hb, k⟩ := h
    refine ⟨_, pss_cons (ps_if (pt_cmpR op_eq (pe_len T.b_len (pe_fld (pv 0) rfl)) pe_int (nomark _)) (pss_one (ps_ret (pe_gi T.c_CANNOT_STAND))) pss_nil)
      (pss_cons (ps_if (pw_or (pt_cmpR (op_eqD hr.units) (pv 1) (pe_tup (pa_cons pe_int (pa_cons pe_int pa_nil))) (nomark _)) (pw_or1 (pt_cmpR (op_inT (units65 hr)) (pv 1) (pe_slice sl_list (pe_fld (pv 0) rfl) (po_some (pe_un un_neg pe_int)) po_none) (by with_unfolding_all rfl)))).pt (pss_one (ps_ret (pe_gi T.c_CLASHES))) pss_nil)
      (pss_cons (ps_if (pt_cmpR op_eq (pe_len T.b_len (pe_fld (pv 0) rfl)) (pe_gi T.c_MOST_WINDS) (nomark _)) (pss_one (ps_ret (pe_gi T.c_TOO_MUCH))) pss_nil)
      (pss_cons (ps_expr (pe_app (pe_fld (pv 0) rfl) (pv 1)))
      (pss_one (ps_ret (pe_gi T.c_NO_FAULT)))))), ?_⟩
    obtain ⟨dx, aw, an, ad, am, rfl, h1, h2, ⟨as, h3, h3'⟩, ⟨ws, h4, h4'⟩, ⟨ms, h5, h5'⟩⟩ := L.ex
    have ew := wrong_wind Ft u
    refine ⟨_, rfl, p, CL, dx, _, _, rfl, h1, C.cL, C.nN, lk_n, an, _, rfl, .inl (SqL.of h3), rfl, _, rfl, ?_⟩
    rw [List.length_map, h3'.length]
    by_cases hn : (Rg.boats l).length = 0
    · rw [if_pos hn] at ew
      rw [decide_eq_true (show V.int ((Rg.boats l).length : Int) = V.int 0 by rw [hn]; rfl)]
      exact iteT (k.no ew (by decide) (Same.refl _) L)
    rw [if_neg hn] at ew
    rw [decide_eq_false (show ¬ V.int ((Rg.boats l).length : Int) = V.int 0 from fun z => hn (by have := V.int.inj z; omega))]
    have hb' := (Off.inv hb).2
    refine iteF ⟨_, rfl, (by show 2 ≤ sizeLine; decide), fun t ht => ?_⟩
    have st : Same H (upd H t (.tup [.int 0, .int 0])) := Same.new ht
    refine rEqT (ns := pI u) (ms := pI ⟨0, 0⟩) (st _ _ hb') upd_same ⟨_, rfl, ?_⟩
    rw [show decide (pI u = pI ⟨0, 0⟩) = decide (u = ⟨0, 0⟩) by congr 1; exact propext pI_inj]
    by_cases h0 : u = ⟨0, 0⟩
    · rw [if_pos (.inl h0)] at ew
      rw [decide_eq_true h0]
      exact iteT (iteT (k.no ew (by decide) st L))
    rw [decide_eq_false h0]
    refine iteF ⟨_, rfl, _, rfl, p, CL, dx, _, _, rfl, st _ _ h1, C.cL, C.nD, lk_d, _, rfl, _, rfl, ad, _, rfl, SqL.of (st _ _ h4), fun t2 ht2 => ?_⟩
    have st2 := st.trans (Same.new (o := .lst (cutV (ws.map V.ref) (some (-1)) none)) ht2)
    have e2 : cutV (ws.map V.ref) (some (-1)) none = (ws.drop (ws.length - 1)).map V.ref := by rw [cut_tail1, List.length_map, List.map_drop]
    rw [e2] at st2 ⊢
    have et2 : (upd (upd H t (.tup [.int 0, .int 0])) t2 (.lst ((ws.drop (ws.length - 1)).map V.ref))) t2 = some (.lst ((ws.drop (ws.length - 1)).map V.ref)) := upd_same
    generalize hHX : upd (upd H t (.tup [.int 0, .int 0])) t2 (.lst ((ws.drop (ws.length - 1)).map V.ref)) = HX at st2 et2 ⊢
    refine ⟨t2, ws.drop (ws.length - 1), c, pI u, ((Rg.winds l).drop ((Rg.winds l).length - 1)).map pI, rfl, rfl, et2, (st2 _ _ hb'), ?_, _, rfl, ?_⟩
    · rw [← h4'.length]
      exact paired_mapR _ (paired_drop _ h4') fun a x r => st2 _ _ (Off.inv r).2
    rw [last_any]
    by_cases hl : (Rg.winds l).getLast? = some u
    · rw [if_pos (.inr hl)] at ew
      rw [decide_eq_true hl]
      exact iteT (k.no ew (by decide) st2 L)
    rw [if_neg (fun z => z.elim h0 hl)] at ew
    rw [decide_eq_false hl]
    refine iteF ⟨_, rfl, p, CL, dx, _, _, rfl, st2 _ _ h1, C.cL, C.nD, lk_d, ad, _, rfl, .inl (SqL.of (st2 _ _ h4)), rfl, _, rfl, ?_⟩
    rw [List.length_map, h4'.length]
    by_cases h64 : (Rg.winds l).length = 4096
    · rw [if_pos h64] at ew
      rw [decide_eq_true (show V.int ((Rg.winds l).length : Int) = V.int 4096 by rw [h64]; rfl)]
      exact iteT (k.no ew (by decide) st2 L)
    rw [if_neg h64] at ew
    rw [decide_eq_false (show ¬ V.int ((Rg.winds l).length : Int) = V.int 4096 from fun z => h64 (by have := V.int.inj z; omega))]
    have hnb := Ft.nw
    refine iteF ⟨_, rfl, p, CL, dx, _, _, rfl, st2 _ _ h1, C.cL, C.nD, lk_d, .inl ⟨rfl, _, SqL.of (st2 _ _ h4)⟩, _, rfl, ad, _, _, rfl, rfl, st2 _ _ h4, (by rw [List.length_map, h4'.length]; exact line_lt (by omega)), ?_⟩
    have L2 := L.same st2
    obtain ⟨dx', aw', an', ad', am', eM, g1, g2, ⟨as', g3, g3'⟩, ⟨ws', g4, g4'⟩, ⟨ms', g5, g5'⟩⟩ := L2.ex
    obtain ⟨_, rfl, rfl, rfl, rfl⟩ : p = p ∧ aw = aw' ∧ an = an' ∧ ad = ad' ∧ am = am' := by simpa using eM
    have ews : ws' = ws := by
      have z := g4.symm.trans (st2 _ _ h4)
      exact map_ref_inj (HO.lst.inj (Option.some.inj z))
    subst ews
    have inM : ad ∈ [p, aw, an, ad, am] := by simp
    obtain ⟨pw, pn, pd, pm, wn, wd, wm, nd', nm, dm⟩ := nd5 L.nd
    have key := k (upd HX ad (.lst (ws'.map V.ref ++ [.ref c]))) ((Keep.of st2).upd inM)
    rw [ew] at key
    refine key ?_
    rw [if_pos rfl]
    have eo : Off ([p, aw, an, ad, am] ++ S) (upd HX ad (.lst (ws'.map V.ref ++ [.ref c]))) = Off ([p, aw, an, ad, am] ++ S) HX := Off.upd (List.mem_append_left _ inM)
    refine ⟨⟨dx', aw, an, ad, am, rfl, by rw [upd_ne pd]; exact g1, by show upd _ _ _ _ = _; rw [upd_ne wd]; exact g2, ⟨as', by rw [upd_ne nd']; exact g3, ?_⟩, ⟨ws' ++ [c], by rw [upd_same, List.map_append]; rfl, ?_⟩, ⟨ms', by rw [upd_ne (Ne.symm dm)]; exact g5, ?_⟩⟩, L.nd, L.ns, fun z hz => ?_⟩
    · rw [boats_append, eo]
      show Paired _ as' (Rg.boats l ++ [])
      rw [List.append_nil]
      exact g3'
    · rw [winds_append, eo]
      exact g4'.snoc (PtAt.same st2.off hb)
    · rw [momsOf_wind, eo]
      exact g5'
    · obtain ⟨o, ho⟩ := L2.live z hz
      refine ⟨o, ?_⟩
      rw [upd_ne (fun q => L.ns ad inM (by rw [← q]; exact hz))]
      exact ho
end
end Bl
end
section
set_option maxHeartbeats 2000000
namespace Bl
open PySem PySem.Spec PyProof.Rows L2
def HullsOk (hs : List Rg.Hull) : Prop := ∀ h ∈ hs, h.bow.ok = true ∧ h.stern.ok = true
theorem head_small {h : Rg.Hull} (a : h.bow.ok = true) (b : h.stern.ok = true) : PtSm h.heading := by
  have h1 := ok_small a
  have h2 := ok_small b
  refine ⟨⟨?_, ?_⟩, ?_, ?_⟩
  · show -(2 ^ 40) ≤ h.bow.x - h.stern.x; omega
  · show h.bow.x - h.stern.x ≤ 2 ^ 40; omega
  · show -(2 ^ 40) ≤ h.bow.y - h.stern.y; omega
  · show h.bow.y - h.stern.y ≤ 2 ^ 40; omega
theorem lk_h {ah aw at_ : Addr} : (momF ah aw at_).lookup ("hulls" : Str) = some (V.ref ah) := rfl
theorem lk_u {ah aw at_ : Addr} : (momF ah aw at_).lookup ("wind" : Str) = some (V.ref aw) := rfl
theorem lk_t {ah aw at_ : Addr} : (momF ah aw at_).lookup ("tacks" : Str) = some (V.ref at_) := rfl
theorem momsOf_length (l : Rg.Log) : (momsOf l).length = (Rg.moments l).length := by
  unfold momsOf tacksOf
  rw [List.length_zip, tacksAll_length, Nat.min_self]
theorem momsOf_snoc {l : Rg.Log} {ms : List Mom} {m : Mom} (h : Rg.moments l = ms ++ [m]) : ∃ i t, momsOf l = i ++ [(m, t)] ∧ (tacksOf l).getLast? = some t := by
  have e := tacksOf_snoc h
  refine ⟨ms.zip (tacksAll (List.replicate (Rg.boats l).length true) ms), _, ?_, by rw [e, List.getLast?_append]; rfl⟩
  unfold momsOf
  rw [e, h, List.zip_append (by rw [tacksAll_length])]
  rfl
theorem item_of {hs : List Rg.Hull} {as : List Addr} {H : Hp} {i : Nat} {y : V} (hp : Paired (fun a x => HullAt H x a) as hs) (hi : (as.map V.ref)[i]? = some y) : ∃ c h, y = .ref c ∧ hs[i]? = some h ∧ HullAt H h c := by
  rw [List.getElem?_map] at hi
  cases e : as[i]? with
  | none => rw [e] at hi; cases hi
  | some c =>
    rw [e] at hi
    obtain ⟨h, h1, h2⟩ := paired_getL hp e
    exact ⟨c, h, (Option.some.inj hi).symm, h1, h2⟩
section
variable {P : Program} {w : World} {K : PySem.W.Frag} {mg : Str → Option Value} {base : Heap} {CL CM CB : Addr}
def spClash (CL CM : Addr) : Sp := fun vs H Q _ => ∃ (p c : Addr) (S M : List Addr) (wr : Rg.Bytes) (n : Nat) (l : Rg.Log) (hs : List Rg.Hull), vs = [.ref p, .ref c] ∧ LogAt CL CM S H p M wr n l ∧ Fit l ∧ AllOk l ∧ HullsAt H hs c ∧ HullsOk hs ∧ hs.length = (Rg.boats l).length ∧
  ∀ H', Same H H' → Q (.bl (hullsClash ((Rg.moments l).getLast?.map (·.2)) hs)) H'
theorem sc_clash : FnScope ["self", "hulls", "hull", "before", "after"] ["self", "hulls"] (defScope s_Log_hulls_clash) := ⟨rfl, rfl, rfl, by decide +kernel, rfl, by decide +kernel, by decide +kernel⟩
theorem ok_clash (F : FunM K CL "hulls_clash" "Log.hulls_clash" s_Log_hulls_clash ["self", "hulls"]) (T : Txt mg) (C : Cs K CL CM CB) (OH : Ok P w K mg base 2 "heading" ["hull"] spHeading) (OT : Ok P w K mg base 2 "turned_by_half" ["before", "after"] spHalf) :
    OkM P w K mg base CL 3 "hulls_clash" ["self", "hulls"] (spClash CL CM) := by
  refine F.ok sc_clash (fun vs H Q E h => ?_) (fun f cdv A outer s H vs Q E hr h => ?_)
  · obtain ⟨p, c, S, M, wr, n, l, hs, rfl, _⟩ := h
    rfl
  · obtain ⟨p, c, S, M, wr, n, l, hs, rfl, L, Ft, Ao, ⟨as, ha, hp⟩, hok, hlen, k⟩ := h
    have h1 := hr.mono (show 1 ≤ 2 by decide)
    refine ⟨_, pss_cons (ps_for PassesOwn.never rfl (pi_list (pv 1)) (pg_name (i := 2) sc_clash.nd rfl (Or.inl rfl))
        (pss_one (ps_if (pt_cmpR (op_eqD hr.units) (pe_fn OH hr (pa_cons (pv 2) pa_nil)) (pe_tup (pa_cons pe_int (pa_cons pe_int pa_nil))) (nomark _)) (pss_one (ps_ret pe_bl)) pss_nil)))
      (pss_cons (ps_if (pt_cmpR op_eq (pe_len T.b_len (pe_fld (pv 0) rfl)) pe_int (nomark _)) (pss_one (ps_ret pe_bl)) pss_nil)
      (pss_cons (ps_for PassesOwn.never rfl (pi_zip rfl T.b_zip (pa_cons (pe_fld (pe_ix ix_list (pe_fld (pv 0) rfl) (pe_un un_neg pe_int) (fun _ _ => rfl)) rfl) (pa_cons (pv 1) pa_nil)))
          (pg_tup rfl (pgs_cons (pg_name (i := 3) sc_clash.nd rfl (Or.inl rfl)) (pgs_cons (pg_name (i := 4) sc_clash.nd rfl (Or.inl rfl)) pgs_nil)))
        (pss_one (ps_if (pt_val (pe_fn OT hr (pa_cons (pe_fn OH hr (pa_cons (pv 3) pa_nil)) (pa_cons (pe_fn OH hr (pa_cons (pv 4) pa_nil)) pa_nil)))) (pss_one (ps_ret pe_bl)) pss_nil)))
      (pss_one (ps_ret pe_bl)))), ?_⟩
    obtain ⟨dx, aw, an, ad, am, rfl, g1, g2, ⟨_, g3, g3'⟩, ⟨ws, g4, g4'⟩, ⟨ms, g5, g5'⟩⟩ := L.ex
    unfold hullsClash at k
    refine ⟨_, rfl, c, rfl, ⟨_, SqL.of ha⟩, for_list (K := K) (a := c) (xs := as.map V.ref)
      (fun i σ H' => ∃ v : Option V, σ = [some (.ref p), some (.ref c), v, none, none] ∧ Same H H' ∧ ∀ j, j < i → ∀ h, hs[j]? = some h → (h.bow == h.stern) = false)
      ⟨none, rfl, Same.refl _, fun j hj => absurd hj (Nat.not_lt_zero _)⟩ (fun i σ H' _ ⟨_, _, s5, _⟩ => SqL.of (s5 _ _ ha)) ?_ ?_⟩
    · rintro i y σ H' hi ⟨v, rfl, s5, hno⟩
      obtain ⟨d, hu, rfl, hi1, hd⟩ := item_of hp hi
      refine ⟨_, rfl, d, hu, rfl, hd.same s5, fun H2 q s6 hq => ⟨(by show 2 ≤ sizeLine; decide), fun t ht => ?_⟩⟩
      have st : Same H2 (upd H2 t (.tup [.int 0, .int 0])) := Same.new ht
      refine rEqT (ns := pI hu.heading) (ms := pI ⟨0, 0⟩) (st _ _ hq) upd_same ⟨_, rfl, ?_⟩
      have s7 := s5.trans (s6.trans st)
      by_cases hz : hu.bow = hu.stern
      · rw [decide_eq_true (pI_inj.mpr ((heading_zero hu).mpr hz))]
        have ea : hs.any (fun (x : Rg.Hull) => x.bow == x.stern) = true := List.any_eq_true.mpr ⟨hu, List.mem_of_getElem? hi1, beq_iff_eq.mpr hz⟩
        have kk := k _ s7
        rw [ea] at kk
        exact iteT kk
      · rw [decide_eq_false (fun z => hz ((heading_zero hu).mp (pI_inj.mp z)))]
        refine iteF ⟨_, rfl, s7, fun j hj h hjh => ?_⟩
        by_cases hji : j < i
        · exact hno j hji h hjh
        · have : j = i := by omega
          subst this
          rw [hi1] at hjh
          cases hjh
          exact beq_eq_false_iff_ne.mpr hz
    · rintro σ H' ⟨v, rfl, s5, hno⟩
      rw [List.length_map, hp.length] at hno
      have ea : hs.any (fun (x : Rg.Hull) => x.bow == x.stern) = false := by
        rw [List.any_eq_false]
        intro x hx
        obtain ⟨j, hj⟩ := List.mem_iff_getElem?.mp hx
        rw [hno j (List.getElem?_eq_some_iff.mp hj).1 x hj]
        decide
      rw [ea] at k
      refine ⟨_, rfl, p, CL, dx, _, _, rfl, s5 _ _ g1, C.cL, C.nM, lk_m, am, _, rfl, .inl (SqL.of (s5 _ _ g5)), rfl, _, rfl, ?_⟩
      rw [List.length_map, g5'.length, momsOf_length]
      by_cases hm0 : Rg.moments l = []
      · rw [hm0] at k
        rw [hm0]
        exact iteT (k _ s5)
      · obtain ⟨mi, m, em, el⟩ := snoc_of hm0
        rw [el] at k
        rw [decide_eq_false (show ¬ V.int ((Rg.moments l).length : Int) = V.int 0 from fun z => by
          have z' := V.int.inj z
          rw [em, List.length_append] at z'
          have : (([m] : List Mom).length : Int) = 1 := rfl
          omega)]
        obtain ⟨ti, tl, etm, _⟩ := momsOf_snoc em
        rw [etm] at g5'
        obtain ⟨ms', a0, rfl, _, hm⟩ := paired_snoc_inv g5'
        obtain ⟨dm, ah, awm, atm, f1, ⟨bs, f2, f2'⟩, f3, f4⟩ := hm.ex
        have mok := moment_ok Ao (show m ∈ Rg.moments l by rw [em]; exact List.mem_append_right _ List.mem_cons_self)
        have mlen : m.2.length = hs.length := by rw [hlen]; exact Ft.each m (by rw [em]; exact List.mem_append_right _ List.mem_cons_self)
        have hb2 := (Off.inv f2).2
        refine iteF ⟨_, rfl, p, CL, dx, _, _, rfl, s5 _ _ g1, C.cL, C.nM, lk_m, _, rfl, am, _, _, V.ref a0, rfl, rfl, SqL.of (s5 _ _ g5), (by rw [List.map_append]; exact atI_last _ _), a0, CM, dm, _, _, rfl, s5 _ _ (Off.inv f1).2, C.cM, C.mH, lk_h, _, rfl,
          ah, c, _, _, rfl, SqL.of (s5 _ _ hb2), SqL.of (s5 _ _ ha), for_zip (K := K) (a := ah) (b := c) (xs := bs.map V.ref) (zs := as.map V.ref)
          (fun i σ H' => ∃ v3 v4 : Option V, σ = [some (.ref p), some (.ref c), v, v3, v4] ∧ Same H H' ∧ ∀ j, j < i → ∀ x y, m.2[j]? = some x → hs[j]? = some y → Rg.turnedBack x y = false)
          ⟨none, none, rfl, s5, fun j hj => absurd hj (Nat.not_lt_zero _)⟩ (by rw [List.length_map, List.length_map, f2'.length, hp.length, mlen]) (fun i σ H' _ ⟨_, _, _, s6, _⟩ => ⟨SqL.of (s6 _ _ hb2), SqL.of (s6 _ _ ha)⟩) ?_ ?_⟩
        · rintro i x z TT σ H2 hx hz hTT ⟨v3, v4, rfl, s6, hno2⟩
          have f2'' : Paired (fun a x => HullAt H x a) bs m.2 := paired_mem f2' fun a _ b r => HullAt.same Off.sub r
          obtain ⟨d1, hu1, rfl, hi1, hd1⟩ := item_of f2'' hx
          obtain ⟨d2, hu2, rfl, hi2, hd2⟩ := item_of hp hz
          have s7 := s6.trans (Same.new (o := .tup [.ref d1, .ref d2]) hTT)
          have o1 := mok.1 hu1 (List.mem_of_getElem? hi1)
          refine ⟨TT, _, rfl, SqT.of upd_same, rfl, _, _, rfl, _, _, rfl, rfl, _, rfl, d1, hu1, rfl, hd1.same s7, fun H3 q1 s8 hq1 => ⟨_, rfl, d2, hu2, rfl, hd2.same (s7.trans s8), fun H4 q2 s9 hq2 =>
            ⟨q1, q2, hu1.heading, hu2.heading, rfl, hq1.same s9, hq2, head_small o1.1 o1.2, _, rfl, ?_⟩⟩⟩
          have s10 := s7.trans (s8.trans s9)
          by_cases ht : Rg.turnedBack hu1 hu2 = true
          · have ea2 : ((m.2.zip hs).any fun (p : Rg.Hull × Rg.Hull) => Rg.turnedBack p.1 p.2) = true := List.any_eq_true.mpr ⟨(hu1, hu2), List.mem_of_getElem? (List.getElem?_zip_eq_some.mpr ⟨hi1, hi2⟩), ht⟩
            have kk := k _ s10
            replace kk : Q (.bl (false || (m.2.zip hs).any fun (p : Rg.Hull × Rg.Hull) => Rg.turnedBack p.1 p.2)) H4 := kk
            rw [ea2] at kk
            rw [show (Rg.cross hu1.heading hu2.heading == 0 && decide (Rg.dot hu1.heading hu2.heading < 0)) = true from ht]
            exact iteT kk
          · rw [show (Rg.cross hu1.heading hu2.heading == 0 && decide (Rg.dot hu1.heading hu2.heading < 0)) = false from Bool.eq_false_iff.mpr ht]
            refine iteF ⟨_, _, rfl, s10, fun j hj x y hjx hjy => ?_⟩
            by_cases hji : j < i
            · exact hno2 j hji x y hjx hjy
            · have : j = i := by omega
              subst this
              rw [hi1] at hjx
              rw [hi2] at hjy
              cases hjx
              cases hjy
              exact Bool.eq_false_iff.mpr ht
        · rintro σ H2 ⟨v3, v4, rfl, s6, hno2⟩
          rw [List.length_map, f2'.length] at hno2
          have ea2 : ((m.2.zip hs).any fun (p : Rg.Hull × Rg.Hull) => Rg.turnedBack p.1 p.2) = false := by
            rw [List.any_eq_false]
            rintro ⟨x, y⟩ hxy
            obtain ⟨j, hj⟩ := List.mem_iff_getElem?.mp hxy
            obtain ⟨j1, j2⟩ := List.getElem?_zip_eq_some.mp hj
            rw [hno2 j (List.getElem?_eq_some_iff.mp j1).1 x y j1 j2]
            decide
          have kk := k _ s6
          replace kk : Q (.bl (false || (m.2.zip hs).any fun (p : Rg.Hull × Rg.Hull) => Rg.turnedBack p.1 p.2)) H2 := kk
          rw [ea2] at kk
          exact kk
end
end Bl
end
section
set_option maxHeartbeats 2000000
namespace Bl
open PySem PySem.Spec PyProof.Rows L2
section
variable {P : Program} {w : World} {K : PySem.W.Frag} {mg : Str → Option Value} {base : Heap} {CL CM CB : Addr}
def before (l : Rg.Log) : List Bool := (tacksOf l).getLastD (List.replicate (Rg.boats l).length true)
theorem before_length {l : Rg.Log} (F : Fit l) : (before l).length = (Rg.boats l).length := by
  unfold before
  by_cases h : tacksOf l = []
  · rw [h]
    exact List.length_replicate ..
  · obtain ⟨i, x, e, e2⟩ := snoc_of h
    rw [List.getLastD_eq_getLast?, e2]
    exact tacksAll_each F.each (List.length_replicate ..) x (show x ∈ tacksOf l by rw [e]; exact List.mem_append_right _ List.mem_cons_self)
def spTacksWith (CL CM : Addr) : Sp := fun vs H Q _ => ∃ (p c : Addr) (S M : List Addr) (wr : Rg.Bytes) (n : Nat) (l : Rg.Log) (hs : List Rg.Hull) (u : Rg.Pt), vs = [.ref p, .ref c] ∧ LogAt CL CM S H p M wr n l ∧ Fit l ∧ HullsAt H hs c ∧ HullsOk hs ∧ hs.length = (Rg.boats l).length ∧ (Rg.winds l).getLast? = some u ∧
  ∀ (H' : Hp) (q : Addr), Same H H' → H q = none → H' q = some (.lst ((tacksWith (before l) (u, hs)).map tV)) → Q (.ref q) H'
theorem sc_tw : FnScope ["self", "hulls", "befores", "wind", "hull", "before"] ["self", "hulls"] (defScope s_Log_tacks_with) := ⟨rfl, rfl, rfl, by decide +kernel, rfl, by decide +kernel, by decide +kernel⟩
theorem ok_tacks_with (F : FunM K CL "tacks_with" "Log.tacks_with" s_Log_tacks_with ["self", "hulls"]) (T : Txt mg) (C : Cs K CL CM CB) (OH : Ok P w K mg base 2 "heading" ["hull"] spHeading) (OT : Ok P w K mg base 2 "tack_after" ["before", "course", "wind"] spTack) :
    OkM P w K mg base CL 3 "tacks_with" ["self", "hulls"] (spTacksWith CL CM) := by
  refine F.ok sc_tw (fun vs H Q E h => ?_) (fun f cdv A outer s H vs Q E hr h => ?_)
  · obtain ⟨p, c, S, M, wr, n, l, hs, u, rfl, _⟩ := h
    rfl
  · obtain ⟨p, c, S, M, wr, n, l, hs, u, rfl, L, Ft, ⟨as, ha, hp⟩, hok, hlen, hu, k⟩ := h
    have h1 := hr.mono (show 1 ≤ 2 by decide)
    have h64 := Ft.nb
    obtain ⟨dx, aw, an, ad, am, rfl, g1, g2, ⟨_, g3, g3'⟩, ⟨ws, g4, g4'⟩, ⟨ms, g5, g5'⟩⟩ := L.ex
    refine ⟨_, pss_cons (ps_imp (t' := fun D σ H' => σ = [some (.ref p), some (.ref c), none, none, none, none] ∧ H' = H ∧ ∀ (H2 : Hp) (q : Addr), Same H H2 → H2 q = some (.lst ((before l).map tV)) → D.nx [some (.ref p), some (.ref c), some (.ref q), none, none, none] H2)
        (ps_if (pt_cmpR op_eq (pe_len T.b_len (pe_fld (pv 0) rfl)) pe_int (nomark _))
          (pss_one (ps_setLc (i := 2) (own := [("hull", 4)]) rfl sc_tw.nd rfl rfl (sw_true rfl rfl rfl (by decide +kernel)) (pi_list (pv 1)) (blkOk_by (N := ["self", "hulls", "befores", "wind", "hull", "before"]) (sc := defScope s_Log_tacks_with) (by decide +kernel))
            (fun _ _ _ _ _ => pg_name (i := 4) sc_tw.nd rfl (Or.inl rfl)) (fun _ _ _ _ _ => pts_nil) (fun _ _ _ _ _ => pe_gi T.c_STARBOARD)))
          (pss_one (ps_set (i := 2) sc_tw.nd rfl (Or.inl rfl) (pe_fld (pe_ix ix_list (pe_fld (pv 0) rfl) (pe_un un_neg pe_int) (fun _ _ => rfl)) rfl)))) ?c1)
      (pss_cons (ps_set (i := 3) sc_tw.nd rfl (Or.inr rfl) (pe_ix ix_list (pe_fld (pv 0) rfl) (pe_un un_neg pe_int) (fun _ _ => rfl)))
      (pss_one (ps_ret (pe_lc (own := [("before", 5), ("hull", 4)]) rfl sc_tw.nd (pi_zip rfl T.b_zip (pa_cons (pv 2) (pa_cons (pv 1) pa_nil))) (blkOk_by (N := ["self", "hulls", "befores", "wind", "hull", "before"]) (sc := defScope s_Log_tacks_with) (by decide +kernel))
        (fun _ _ _ _ _ => pg_tupK (K := K) (n := 2) rfl rfl (pgs_cons (pg_name (i := 5) sc_tw.nd rfl (Or.inl rfl)) (pgs_cons (pg_name (i := 4) sc_tw.nd rfl (Or.inl rfl)) pgs_nil))) (fun _ _ _ _ _ => pts_nil)
        (fun _ _ _ _ _ => pe_fn OT hr (pa_cons (pv 5) (pa_cons (pe_fn OH hr (pa_cons (pv 4) pa_nil)) (pa_cons (pv 3) pa_nil)))))))), ?_⟩
    case c1 =>
      rintro D σ H' ⟨rfl, rfl, kk⟩
      refine ⟨_, rfl, p, CL, dx, _, _, rfl, g1, C.cL, C.nM, lk_m, am, _, rfl, .inl (SqL.of g5), rfl, _, rfl, ?_⟩
      rw [List.length_map, g5'.length, momsOf_length]
      by_cases hm0 : Rg.moments l = []
      · have eb : before l = List.replicate hs.length true := by
          unfold before tacksOf
          rw [hm0, hlen]
          rfl
        rw [hm0]
        refine iteT ⟨_, rfl, c, rfl, ⟨_, SqL.of ha⟩, fun D1 hD1 => lc_map (R := fun i y _ => y = .int 1) (fun _ _ _ _ _ h => h) hD1 ha (by rw [List.length_map, hp.length]; omega) (fun _ => rfl) ?_ ?_⟩
        · rintro i x hx H2 Q2 s2 _ q
          exact q _ _ (Same.refl _) rfl
        · intro H2 hI
          refine kk _ _ hI.same (hI.eq ?_ ?_)
          · rw [eb, List.length_map, List.length_map, List.length_replicate, hp.length]
          · intro j y hj hy
            rw [List.length_map, hp.length] at hj
            rw [eb, List.getElem?_map, List.getElem?_replicate, if_pos hj, hy]
            rfl
      · obtain ⟨mi, m, em, el⟩ := snoc_of hm0
        rw [decide_eq_false (show ¬ V.int ((Rg.moments l).length : Int) = V.int 0 from fun z => by
          have z' := V.int.inj z
          rw [em, List.length_append] at z'
          have : (([m] : List Mom).length : Int) = 1 := rfl
          omega)]
        obtain ⟨ti, tl, etm, etl⟩ := momsOf_snoc em
        rw [etm] at g5'
        obtain ⟨ms', a0, rfl, _, hm⟩ := paired_snoc_inv g5'
        obtain ⟨dm, ah, awm, atm, f1, ⟨bs, f2, f2'⟩, f3, f4⟩ := hm.ex
        have eb : before l = tl := by
          unfold before
          rw [List.getLastD_eq_getLast?, etl]
          rfl
        rw [eb] at kk
        exact iteF ⟨_, rfl, p, CL, dx, _, _, rfl, g1, C.cL, C.nM, lk_m, _, rfl, am, _, _, V.ref a0, rfl, rfl, SqL.of g5, (by rw [List.map_append]; exact atI_last _ _), a0, CM, dm, _, _, rfl, (Off.inv f1).2, C.cM, C.mT, lk_t, kk _ _ (Same.refl _) (Off.inv f4).2⟩
    refine ⟨rfl, rfl, fun H2 q s2 hq => ?_⟩
    have hwn : Rg.winds l ≠ [] := by intro z; rw [z] at hu; cases hu
    obtain ⟨wi, u', ew, eu⟩ := snoc_of hwn
    rw [hu] at eu
    cases eu
    rw [ew] at g4'
    obtain ⟨ws', b0, rfl, _, hb0⟩ := paired_snoc_inv g4'
    have hb0' : PtAt H u b0 := hb0.same Off.sub
    have hbl := before_length Ft
    refine ⟨_, rfl, p, CL, dx, _, _, rfl, s2 _ _ g1, C.cL, C.nD, lk_d, _, rfl, ad, _, _, V.ref b0, rfl, rfl, SqL.of (s2 _ _ g4), (by rw [List.map_append]; exact atI_last _ _), ?_⟩
    refine ⟨_, rfl, _, rfl, q, c, _, _, rfl, SqL.of hq, SqL.of (s2 _ _ ha), fun D hD => lc_zip (xs := (before l).map tV) (zs := as.map V.ref) (R := fun i y _ => ∃ x h, (before l)[i]? = some x ∧ hs[i]? = some h ∧ y = tV (Rg.onStarboard h u x)) (fun _ _ _ _ _ h => h) hD hq (s2 _ _ ha)
      (by rw [List.length_map, List.length_map, hp.length, hbl, hlen]) (by rw [List.length_map, hbl]; omega) (fun _ _ => rfl) ?_ ?_⟩
    · rintro i x z hx hz H3 Q3 s3 _ q3
      obtain ⟨d, hh, rfl, hi1, hd⟩ := item_of hp hz
      rw [List.getElem?_map] at hx
      cases ebx : (before l)[i]? with
      | none => rw [ebx] at hx; cases hx
      | some t =>
        rw [ebx] at hx
        have ex : tV t = x := Option.some.inj hx
        subst ex
        have o1 := hok hh (List.mem_of_getElem? hi1)
        have s4 := s2.trans s3
        exact ⟨_, rfl, _, rfl, d, hh, rfl, hd.same s4, fun H4 g s5 hg => ⟨_, rfl, g, b0, t, hh.heading, u, rfl, hg, hb0'.same (s4.trans s5), head_small o1.1 o1.2, q3 _ _ s5 ⟨t, hh, ebx, hi1, rfl⟩⟩⟩
    · intro H3 hI
      rw [List.length_map] at hI
      refine k _ _ (s2.trans hI.same) (s2.free hD) (hI.eq ?_ ?_)
      · rw [List.length_map, tacksWith_length (by show hs.length = _; rw [hbl, hlen])]
      · rintro j y hj ⟨x, h, e1, e2, rfl⟩
        rw [List.getElem?_map, tacksWith_get (m := (u, hs)) e1 e2]
        rfl
end
end Bl
end
section
set_option maxHeartbeats 2000000
namespace Bl
open PySem PySem.Spec PyProof.Rows L2
theorem momsOf_at {l : Rg.Log} {u : Rg.Pt} (hu : (Rg.winds l).getLast? = some u) (hs : List Rg.Hull) : momsOf (l ++ [.at_ hs]) = momsOf l ++ [((u, hs), tacksWith (before l) (u, hs))] := by
  have e1 : Rg.boats (l ++ [.at_ hs]) = Rg.boats l := by rw [boats_append]; exact List.append_nil _
  have e2 : Rg.moments (l ++ [.at_ hs]) = Rg.moments l ++ [(u, hs)] := by rw [moments_snoc, hu]; rfl
  have e3 : tacksOf (l ++ [.at_ hs]) = tacksOf l ++ [tacksWith (before l) (u, hs)] := by
    unfold tacksOf before tacksOf
    rw [e1, e2, tacksAll_snoc]
  unfold momsOf
  rw [e2, e3, List.zip_append (by unfold tacksOf; rw [tacksAll_length])]
  rfl
section
variable {P : Program} {w : World} {K : PySem.W.Frag} {mg : Str → Option Value} {base : Heap} {CL CM CB : Addr}
def spAddMoment (CL CM : Addr) : Sp := fun vs H Q _ => ∃ (p c : Addr) (S M : List Addr) (wr : Rg.Bytes) (n : Nat) (l : Rg.Log) (hs : List Rg.Hull), vs = [.ref p, .ref c] ∧ LogAt CL CM S H p M wr n l ∧ Fit l ∧ AllOk l ∧ HullsAt (Off (M ++ S) H) hs c ∧ HullsOk hs ∧ Added CL CM S H p M wr n l (.at_ hs) Q
theorem sc_add_moment : FnScope ["self", "hulls"] ["self", "hulls"] (defScope s_Log_add_moment) := ⟨rfl, rfl, rfl, by decide +kernel, rfl, by decide +kernel, by decide +kernel⟩
theorem ok_add_moment (F : FunM K CL "add_moment" "Log.add_moment" s_Log_add_moment ["self", "hulls"]) (T : Txt mg) (C : Cs K CL CM CB) (OC : OkM P w K mg base CL 3 "hulls_clash" ["self", "hulls"] (spClash CL CM)) (OT : OkM P w K mg base CL 3 "tacks_with" ["self", "hulls"] (spTacksWith CL CM))
    (OM : OkC P w K mg base CM 1 "Moment" ["self", "hulls", "wind", "tacks"] (spMomInit CM)) : OkM P w K mg base CL 4 "add_moment" ["self", "hulls"] (spAddMoment CL CM) := by
  refine F.ok sc_add_moment (fun vs H Q E h => ?_) (fun f cdv A outer s H vs Q E hr h => ?_)
  · obtain ⟨p, c, S, M, wr, n, l, b, rfl, _⟩ := h
    rfl
  · obtain ⟨p, c, S, M, wr, n, l, hs, rfl, L, Ft, Ao, hc, hok, k⟩ := h
    have h2 := hr.mono (show 2 ≤ 3 by decide)
    refine ⟨_, pss_cons (ps_if (pw_or (pt_cmpR op_eq (pe_len T.b_len (pe_fld (pv 0) rfl)) pe_int (nomark _)) (pw_or1 (pt_cmpR op_ne (pe_len T.b_len (pv 1)) (pe_len T.b_len (pe_fld (pv 0) rfl)) (nomark _)))).pt (pss_one (ps_ret (pe_gi T.c_CANNOT_STAND))) pss_nil)
      (pss_cons (ps_if (pt_val (pe_mt C.cL OC hr (pv 0) (pa_cons (pv 1) pa_nil))) (pss_one (ps_ret (pe_gi T.c_CLASHES))) pss_nil)
      (pss_cons (ps_if (pt_cmpR op_eq (pe_len T.b_len (pe_fld (pv 0) rfl)) (pe_gi T.c_MOST_MOMENTS) (nomark _)) (pss_one (ps_ret (pe_gi T.c_TOO_MUCH))) pss_nil)
      (pss_cons (ps_expr (pe_app (pe_fld (pv 0) rfl) (pe_mk OM h2 (pa_cons (pv 1) (pa_cons (pe_ix ix_list (pe_fld (pv 0) rfl) (pe_un un_neg pe_int) (fun _ _ => rfl)) (pa_cons (pe_mt C.cL OT hr (pv 0) (pa_cons (pv 1) pa_nil)) pa_nil))))))
      (pss_one (ps_ret (pe_gi T.c_NO_FAULT)))))), ?_⟩
    obtain ⟨dx, aw, an, ad, am, rfl, g1, g2, ⟨as, g3, g3'⟩, ⟨ws, g4, g4'⟩, ⟨ms, g5, g5'⟩⟩ := L.ex
    have ew := wrong_at Ft hs
    have hcH : HullsAt H hs c := HullsAt.same Off.sub hc
    obtain ⟨cs, c1, c1'⟩ := hcH
    refine ⟨_, rfl, p, CL, dx, _, _, rfl, g1, C.cL, C.nD, lk_d, ad, _, rfl, .inl (SqL.of g4), rfl, _, rfl, ?_⟩
    rw [List.length_map, g4'.length]
    by_cases hw : (Rg.winds l).length = 0
    · rw [if_pos (.inl hw)] at ew
      rw [decide_eq_true (show V.int ((Rg.winds l).length : Int) = V.int 0 by rw [hw]; rfl)]
      exact iteT (iteT (k.no ew (by decide) (Same.refl _) L))
    rw [decide_eq_false (show ¬ V.int ((Rg.winds l).length : Int) = V.int 0 from fun z => hw (by have := V.int.inj z; omega))]
    refine iteF ⟨_, rfl, c, _, rfl, .inl (SqL.of c1), _, rfl, p, CL, dx, _, _, rfl, g1, C.cL, C.nN, lk_n, an, _, rfl, .inl (SqL.of g3), rfl, _, rfl, ?_⟩
    rw [List.length_map, List.length_map, c1'.length, g3'.length]
    by_cases hlen : hs.length = (Rg.boats l).length
    rotate_left
    · rw [if_pos (.inr hlen)] at ew
      rw [decide_eq_false (show ¬ V.int (hs.length : Int) = V.int ((Rg.boats l).length : Int) from fun z => hlen (by have := V.int.inj z; omega))]
      exact iteT (k.no ew (by decide) (Same.refl _) L)
    rw [if_neg (fun z => z.elim hw (fun q => q hlen))] at ew
    rw [decide_eq_true (show V.int (hs.length : Int) = V.int ((Rg.boats l).length : Int) by rw [hlen])]
    refine iteF ⟨_, rfl, p, dx, _, rfl, g1, rfl, _, rfl, p, c, S, _, wr, n, l, hs, rfl, L, Ft, Ao, ⟨cs, c1, c1'⟩, hok, hlen, fun H1 s1 => ⟨_, rfl, ?_⟩⟩
    by_cases hcl : hullsClash ((Rg.moments l).getLast?.map (·.2)) hs = true
    · rw [if_pos hcl] at ew
      rw [hcl]
      exact iteT (k.no ew (by decide) s1 L)
    rw [if_neg hcl] at ew
    rw [Bool.eq_false_iff.mpr hcl]
    refine iteF ⟨_, rfl, p, CL, dx, _, _, rfl, s1 _ _ g1, C.cL, C.nM, lk_m, am, _, rfl, .inl (SqL.of (s1 _ _ g5)), rfl, _, rfl, ?_⟩
    rw [List.length_map, g5'.length, momsOf_length]
    by_cases h64 : (Rg.moments l).length = 4096
    · rw [if_pos h64] at ew
      rw [decide_eq_true (show V.int ((Rg.moments l).length : Int) = V.int 4096 by rw [h64]; rfl)]
      exact iteT (k.no ew (by decide) s1 L)
    rw [if_neg h64] at ew
    rw [decide_eq_false (show ¬ V.int ((Rg.moments l).length : Int) = V.int 4096 from fun z => h64 (by have := V.int.inj z; omega))]
    have hnm := Ft.nm
    have hwn : Rg.winds l ≠ [] := fun z => hw (by rw [z]; rfl)
    obtain ⟨wi, u, euw, eu⟩ := snoc_of hwn
    have g4'' := g4'
    rw [euw] at g4''
    obtain ⟨ws', b0, ews, _, hb0⟩ := paired_snoc_inv g4''
    subst ews
    refine iteF ⟨_, rfl, p, CL, dx, _, _, rfl, s1 _ _ g1, C.cL, C.nM, lk_m, .inl ⟨rfl, _, SqL.of (s1 _ _ g5)⟩, _, rfl, _, rfl, p, CL, dx, _, _, rfl, s1 _ _ g1, C.cL, C.nD, lk_d, _, rfl, ad, _, _, V.ref b0, rfl, rfl, SqL.of (s1 _ _ g4), (by rw [List.map_append]; exact atI_last _ _),
      _, rfl, p, dx, _, rfl, s1 _ _ g1, rfl, _, rfl, p, c, S, _, wr, n, l, hs, u, rfl, L.same s1, Ft, ⟨cs, s1 _ _ c1, paired_mem c1' fun a _ b r => HullAt.same s1 r⟩, hok, hlen, eu, fun H2 q s2 nq hq => ?_⟩
    intro x dm nx ndm nedm
    refine ⟨x, dm, c, b0, q, rfl, upd_same, fun H3 e3 kp => ⟨rfl, ?_⟩⟩
    have s3 : Same H2 H3 := Same.made nx ndm kp
    have s123 : Same H H3 := s1.trans (s2.trans s3)
    refine ⟨am, _, _, rfl, rfl, s123 _ _ g5, (by rw [List.length_map, g5'.length, momsOf_length]; exact line_lt (by omega)), ?_⟩
    have L3 := L.same s123
    have off3 : ∀ {b : Addr}, H b = none → b ∉ [p, aw, an, ad, am] ++ S := fun hb => L.fresh hb
    have inM : am ∈ [p, aw, an, ad, am] := by simp
    obtain ⟨pw, pn, pd, pm, wn, wd, wm, nd', nm, dm'⟩ := nd5 L.nd
    have key := k (upd H3 am (.lst (ms.map V.ref ++ [.ref x]))) ((Keep.of s123).upd inM)
    rw [ew] at key
    refine key ?_
    rw [if_pos rfl]
    have eo : Off ([p, aw, an, ad, am] ++ S) (upd H3 am (.lst (ms.map V.ref ++ [.ref x]))) = Off ([p, aw, an, ad, am] ++ S) H3 := Off.upd (List.mem_append_left _ inM)
    have so : Same (Off ([p, aw, an, ad, am] ++ S) H) (Off ([p, aw, an, ad, am] ++ S) H3) := s123.off
    refine ⟨⟨dx, aw, an, ad, am, rfl, by rw [upd_ne pm]; exact s123 _ _ g1, by show upd _ _ _ _ = _; rw [upd_ne wm]; exact s123 _ _ g2, ⟨as, by rw [upd_ne nm]; exact s123 _ _ g3, ?_⟩, ⟨ws' ++ [b0], by rw [upd_ne dm']; exact s123 _ _ g4, ?_⟩, ⟨ms ++ [x], by rw [upd_same, List.map_append]; rfl, ?_⟩⟩, L.nd, L.ns, fun z hz => ?_⟩
    · rw [boats_append, eo]
      show Paired _ as (Rg.boats l ++ [])
      rw [List.append_nil]
      exact paired_mem g3' fun a _ b r => BytesAt.same so r
    · rw [winds_append, eo]
      show Paired _ _ (Rg.winds l ++ [])
      rw [List.append_nil]
      exact paired_mem g4' fun a _ b r => PtAt.same so r
    · rw [momsOf_at eu, eo]
      refine (paired_mem g5' fun a _ b r => MomAt.same so r).snoc ⟨dm, c, b0, q, Off.mk e3 (off3 (s1.free (s2.free nx))), HullsAt.same so hc, PtAt.same so hb0, Off.mk (s3 _ _ hq) (off3 (s1.free nq))⟩
    · obtain ⟨o, ho⟩ := L3.live z hz
      refine ⟨o, ?_⟩
      rw [upd_ne (fun q => L.ns am inM (by rw [← q]; exact hz))]
      exact ho
end
end Bl
end
section
set_option maxHeartbeats 2000000
namespace Bl
open PySem PySem.Spec PyProof.Rows L2
def ToldAt (G : Hp) (x : Rg.LogLine) (kind : Str) (c : Addr) : Prop := match x with
  | .boat n => kind = "boat" ∧ BytesAt G n c
  | .wind p => kind = "wind" ∧ PtAt G p c
  | .at_ hs => kind = "at" ∧ HullsAt G hs c
theorem at_hulls_ok {hs : List Rg.Hull} (h : (Rg.LogLine.at_ hs).ok = true) : HullsOk hs := by
  replace h : (decide (1 ≤ hs.length) && (decide (hs.length ≤ 64) && hs.all fun (h : Rg.Hull) => h.bow.ok && h.stern.ok)) = true := h
  rw [Bool.and_eq_true, Bool.and_eq_true] at h
  intro x hx
  have := List.all_eq_true.mp h.2.2 x hx
  rw [Bool.and_eq_true] at this
  exact this
section
variable {P : Program} {w : World} {K : PySem.W.Frag} {mg : Str → Option Value} {base : Heap} {CL CM CB : Addr}
def spAddTold (CL CM : Addr) : Sp := fun vs H Q _ => ∃ (p c : Addr) (kind : Str) (S M : List Addr) (wr : Rg.Bytes) (n : Nat) (l : Rg.Log) (x : Rg.LogLine), vs = [.ref p, .str kind, .ref c] ∧ LogAt CL CM S H p M wr n l ∧ Fit l ∧ AllOk l ∧ x.ok = true ∧ ToldAt (Off (M ++ S) H) x kind c ∧ Added CL CM S H p M wr n l x Q
theorem sc_add_told : FnScope ["self", "kind", "told"] ["self", "kind", "told"] (defScope s_Log_add_told) := ⟨rfl, rfl, rfl, by decide +kernel, rfl, by decide +kernel, by decide +kernel⟩
theorem ok_add_told (F : FunM K CL "add_told" "Log.add_told" s_Log_add_told ["self", "kind", "told"]) (T : Txt mg) (C : Cs K CL CM CB) (OB : OkM P w K mg base CL 2 "add_boat" ["self", "name"] (spAddBoat CL CM)) (OW : OkM P w K mg base CL 2 "add_wind" ["self", "wind"] (spAddWind CL CM))
    (OA : OkM P w K mg base CL 4 "add_moment" ["self", "hulls"] (spAddMoment CL CM)) : OkM P w K mg base CL 5 "add_told" ["self", "kind", "told"] (spAddTold CL CM) := by
  refine F.ok sc_add_told (fun vs H Q E h => ?_) (fun f cdv A outer s H vs Q E hr h => ?_)
  · obtain ⟨p, c, kind, S, M, wr, n, l, x, rfl, _⟩ := h
    rfl
  · obtain ⟨p, c, kind, S, M, wr, n, l, x, rfl, L, Ft, Ao, hx, ht, k⟩ := h
    have h2 := hr.mono (show 2 ≤ 4 by decide)
    refine ⟨_, pss_cons (ps_if (pt_cmpR op_eq (pv 1) (pe_gs T.c_BOAT_lines) (nomark _)) (pss_one (ps_ret (pe_mt C.cL OB h2 (pv 0) (pa_cons (pv 2) pa_nil)))) pss_nil)
      (pss_cons (ps_if (pt_cmpR op_eq (pv 1) (pe_gs T.c_WIND) (nomark _)) (pss_one (ps_ret (pe_mt C.cL OW h2 (pv 0) (pa_cons (pv 2) pa_nil)))) pss_nil)
      (pss_one (ps_ret (pe_mt C.cL OA hr (pv 0) (pa_cons (pv 2) pa_nil))))), ?_⟩
    obtain ⟨dx, aw, an, ad, am, eM, g1, _⟩ := L.ex
    cases x with
    | boat n' =>
      obtain ⟨rfl, hn⟩ := ht
      exact ⟨_, rfl, rfl, _, rfl, iteT ⟨_, rfl, p, dx, _, rfl, g1, rfl, _, rfl, p, c, S, M, wr, n, l, n', rfl, L, Ft, hn, k⟩⟩
    | wind u =>
      obtain ⟨rfl, hu⟩ := ht
      refine ⟨_, rfl, rfl, _, rfl, ?_⟩
      rw [decide_eq_false (show ¬ V.str "wind" = V.str "boat" by decide +kernel)]
      exact iteF ⟨_, rfl, rfl, _, rfl, iteT ⟨_, rfl, p, dx, _, rfl, g1, rfl, _, rfl, p, c, S, M, wr, n, l, u, rfl, L, Ft, hu, k⟩⟩
    | at_ hs =>
      obtain ⟨rfl, hh⟩ := ht
      refine ⟨_, rfl, rfl, _, rfl, ?_⟩
      rw [decide_eq_false (show ¬ V.str "at" = V.str "boat" by decide +kernel)]
      refine iteF ⟨_, rfl, rfl, _, rfl, ?_⟩
      rw [decide_eq_false (show ¬ V.str "at" = V.str "wind" by decide +kernel)]
      exact iteF ⟨_, rfl, p, dx, _, rfl, g1, rfl, _, rfl, p, c, S, M, wr, n, l, hs, rfl, L, Ft, Ao, hh, at_hulls_ok hx, k⟩
def judge1 (l : Rg.Log) (b : Rg.Bytes) : Nat × Rg.Log := match Rg.lineIn b with
  | none => (1, l)
  | some x => (Rg.wrongOf l x, if Rg.wrongOf l x = 0 then l ++ [x] else l)
def spAddLine (CL CM : Addr) : Sp := fun vs H Q _ => ∃ (p c : Addr) (S M : List Addr) (wr : Rg.Bytes) (l : Rg.Log) (b : Rg.Bytes), vs = [.ref p, .ref c] ∧ LogAt CL CM S H p M wr l.length l ∧ Fit l ∧ AllOk l ∧ BytesAt H b c ∧ b.length ≤ 100000 ∧
  ∀ H' : Hp, Keep M H H' → LogAt CL CM S H' p M wr (judge1 l b).2.length (judge1 l b).2 → Q (.int ((judge1 l b).1 : Nat)) H'
theorem sc_add_line : FnScope ["self", "line", "read", "why"] ["self", "line"] (defScope s_Log_add_line) := ⟨rfl, rfl, rfl, by decide +kernel, rfl, by decide +kernel, by decide +kernel⟩
theorem LogAt.setN {S : List Addr} {H : Hp} {p dx aw an ad am : Addr} {wr : Rg.Bytes} {n : Nat} {l : Rg.Log} (L : LogAt CL CM S H p [p, aw, an, ad, am] wr n l) (g1 : H p = some (.ins CL dx (logF aw n an ad am))) (m : Nat) :
    LogAt CL CM S (upd H p (.ins CL dx (logF aw m an ad am))) p [p, aw, an, ad, am] wr m l := by
  obtain ⟨dx', aw', an', ad', am', eM, _, g2, ⟨as, g3, g3'⟩, ⟨ws, g4, g4'⟩, ⟨ms, g5, g5'⟩⟩ := L.ex
  obtain ⟨_, rfl, rfl, rfl, rfl⟩ : p = p ∧ aw = aw' ∧ an = an' ∧ ad = ad' ∧ am = am' := by simpa using eM
  obtain ⟨pw, pn, pd, pm, wn, wd, wm, nd', nm, dm⟩ := nd5 L.nd
  have inM : p ∈ [p, aw, an, ad, am] := List.mem_cons_self
  have eo : Off ([p, aw, an, ad, am] ++ S) (upd H p (.ins CL dx (logF aw m an ad am))) = Off ([p, aw, an, ad, am] ++ S) H := Off.upd (List.mem_append_left _ inM)
  refine ⟨⟨dx, aw, an, ad, am, rfl, upd_same, by show upd _ _ _ _ = _; rw [upd_ne (Ne.symm pw)]; exact g2, ⟨as, by rw [upd_ne (Ne.symm pn)]; exact g3, by rw [eo]; exact g3'⟩, ⟨ws, by rw [upd_ne (Ne.symm pd)]; exact g4, by rw [eo]; exact g4'⟩, ⟨ms, by rw [upd_ne (Ne.symm pm)]; exact g5, by rw [eo]; exact g5'⟩⟩, L.nd, L.ns, fun z hz => ?_⟩
  obtain ⟨o, ho⟩ := L.live z hz
  refine ⟨o, ?_⟩
  rw [upd_ne (fun q => L.ns p inM (by rw [← q]; exact hz))]
  exact ho
theorem ok_add_line (F : FunM K CL "add_line" "Log.add_line" s_Log_add_line ["self", "line"]) (T : Txt mg) (C : Cs K CL CM CB) (OR : Ok P w K mg base 6 "read_line" ["line"] spLine) (OT : OkM P w K mg base CL 5 "add_told" ["self", "kind", "told"] (spAddTold CL CM)) :
    OkM P w K mg base CL 7 "add_line" ["self", "line"] (spAddLine CL CM) := by
  refine F.ok sc_add_line (fun vs H Q E h => ?_) (fun f cdv A outer s H vs Q E hr h => ?_)
  · obtain ⟨p, c, S, M, wr, l, b, rfl, _⟩ := h
    rfl
  · obtain ⟨p, c, S, M, wr, l, b, rfl, L, Ft, Ao, hb, hlen, k⟩ := h
    have h5 := hr.mono (show 5 ≤ 6 by decide)
    refine ⟨_, pss_cons (ps_set (i := 2) sc_add_line.nd rfl (Or.inl rfl) (pe_fn OR hr (pa_cons (pv 1) pa_nil)))
      (pss_cons (ps_if (pt_cmpR op_isN (pv 2) pe_non (nomark _)) (pss_one (ps_ret (pe_gi T.c_NOT_FORMED))) pss_nil)
      (pss_cons (ps_set (i := 3) sc_add_line.nd rfl (Or.inl rfl) (pe_mt C.cL OT h5 (pv 0) (pa_cons (pe_ix ix_tup (pv 2) pe_int (fun _ _ => rfl)) (pa_cons (pe_ix ix_tup (pv 2) pe_int (fun _ _ => rfl)) pa_nil))))
      (pss_cons (ps_if (pt_cmpR op_eq (pv 3) (pe_gi T.c_NO_FAULT) (nomark _)) (pss_one (ps_fldaug (pv 0) pe_int in_add)) pss_nil)
      (pss_one (ps_ret (pv 3)))))), ?_⟩
    refine ⟨_, rfl, c, b, rfl, hb, hlen, fun H1 v s1 hv => ⟨_, rfl, rfl, _, rfl, ?_⟩⟩
    rw [readLine_eq] at hv
    unfold judge1 at k
    cases hx : Rg.lineIn b with
    | none =>
      rw [hx] at hv k
      have e : v = .non := hv
      subst e
      exact iteT (k _ (Keep.of s1) (L.same s1))
    | some x =>
      rw [hx] at hv k
      replace k : ∀ H' : Hp, Keep M H H' → LogAt CL CM S H' p M wr (if Rg.wrongOf l x = 0 then l ++ [x] else l).length (if Rg.wrongOf l x = 0 then l ++ [x] else l) → Q (.int (Rg.wrongOf l x : Nat)) H' := k
      have hok : x.ok = true := (lineIn_some.mp hx).1
      have so : Same (New H H1) (Off (M ++ S) H1) := fun b' o e => by
        obtain ⟨e1, e2⟩ := New.inv e
        exact Off.mk e2 (L.fresh e1)
      obtain ⟨q, a, kind, rfl, hq, ht⟩ : ∃ q a kind, v = .ref q ∧ H1 q = some (.tup [.str kind, .ref a]) ∧ ToldAt (Off (M ++ S) H1) x kind a := by
        cases x with
        | boat n => obtain ⟨q, a, e1, e2, e3⟩ := hv; exact ⟨q, a, "boat", e1, (New.inv e2).2, rfl, BytesAt.same so e3⟩
        | wind u => obtain ⟨q, a, e1, e2, e3⟩ := hv; exact ⟨q, a, "wind", e1, (New.inv e2).2, rfl, PtAt.same so e3⟩
        | at_ hs => obtain ⟨q, a, e1, e2, e3⟩ := hv; exact ⟨q, a, "at", e1, (New.inv e2).2, rfl, HullsAt.same so e3⟩
      obtain ⟨dx, aw, an, ad, am, eM, g1, _⟩ := L.ex
      refine iteF ⟨_, rfl, p, dx, _, rfl, s1 _ _ g1, rfl, _, rfl, q, _, _, _, rfl, rfl, SqT.of hq, rfl, _, rfl, q, _, _, _, rfl, rfl, SqT.of hq, rfl, p, a, kind, S, M, wr, l.length, l, x, rfl, L.same s1, Ft, Ao, hok, ht, fun H2 k2 L2' => ?_⟩
      refine ⟨_, rfl, rfl, _, rfl, ?_⟩
      by_cases hw0 : Rg.wrongOf l x = 0
      · rw [if_pos hw0] at L2'
        rw [hw0] at k ⊢
        rw [if_pos rfl] at k
        subst eM
        obtain ⟨dx2, aw2, an2, ad2, am2, eM2, g12, _⟩ := L2'.ex
        obtain ⟨_, rfl, rfl, rfl, rfl⟩ : p = p ∧ aw = aw2 ∧ an = an2 ∧ ad = ad2 ∧ am = am2 := by simpa using eM2
        refine iteT ⟨_, rfl, p, CL, dx2, _, _, rfl, g12, C.cL, C.nL, lk_l, _, _, rfl, rfl, dx2, _, g12, few_log, ?_⟩
        refine ⟨_, rfl, ?_⟩
        have e5 : putF "lines" (.int ((l.length : Int) + 1)) (logF aw l.length an ad am) = logF aw (l.length + 1) an ad am := logF_l aw an ad am l.length (l.length + 1)
        rw [e5]
        refine k _ (((Keep.of s1).trans k2).upd List.mem_cons_self) ?_
        rw [List.length_append]
        exact L2'.setN g12 (l.length + 1)
      · rw [if_neg hw0] at L2' k
        rw [decide_eq_false (show ¬ V.int ((Rg.wrongOf l x : Nat) : Int) = V.int 0 from fun z => hw0 (by have := V.int.inj z; omega))]
        exact iteF ⟨_, rfl, k _ ((Keep.of s1).trans k2) L2'⟩
end
end Bl
end
section
set_option maxHeartbeats 2000000
namespace Bl
open PySem PySem.Spec PyProof.Rows L2
theorem addLines_judge (l : Rg.Log) (b : Rg.Bytes) (r : List Rg.Bytes) : addLines l (b :: r) = if (judge1 l b).1 = 0 then addLines (judge1 l b).2 r else .error ((judge1 l b).2.length, (judge1 l b).1) := by
  rw [addLines_cons]
  unfold judge1
  cases Rg.lineIn b with
  | none => rfl
  | some x =>
    show (if Rg.wrongOf l x = 0 then addLines (l ++ [x]) r else .error (l.length, Rg.wrongOf l x)) = (if Rg.wrongOf l x = 0 then addLines (if Rg.wrongOf l x = 0 then l ++ [x] else l) r else .error ((if Rg.wrongOf l x = 0 then l ++ [x] else l).length, Rg.wrongOf l x))
    by_cases h : Rg.wrongOf l x = 0
    · rw [if_pos h, if_pos h, if_pos h]
    · rw [if_neg h, if_neg h, if_neg h]
theorem judge1_fit {l : Rg.Log} (F : Fit l) (A : AllOk l) (b : Rg.Bytes) (h : (judge1 l b).1 = 0) : Fit (judge1 l b).2 ∧ AllOk (judge1 l b).2 := by
  unfold judge1 at h ⊢
  cases hx : Rg.lineIn b with
  | none => rw [hx] at h; cases h
  | some x =>
    rw [hx] at h
    replace h : Rg.wrongOf l x = 0 := h
    show Fit (if Rg.wrongOf l x = 0 then l ++ [x] else l) ∧ AllOk (if Rg.wrongOf l x = 0 then l ++ [x] else l)
    rw [if_pos h]
    exact ⟨F.add h, A.add (lineIn_some.mp hx).1⟩
section
variable {P : Program} {w : World} {K : PySem.W.Frag} {mg : Str → Option Value} {base : Heap} {CL CM CB : Addr}
def Wrote (CL CM : Addr) (S : List Addr) (H : Hp) (p : Addr) (M : List Addr) (wr : Rg.Bytes) (l : Rg.Log) (t : Rg.Bytes) (Q : VK) : Prop := match write l t with
  | .ok m => ∀ H' : Hp, Keep M H H' → LogAt CL CM S H' p M (wr ++ t) m.length m → Q (.int 0) H'
  | .error e => ∀ (H' : Hp) (l' : Rg.Log), Keep M H H' → LogAt CL CM S H' p M wr e.1 l' → Q (.int (e.2 : Nat)) H'
def spWrite (CL CM : Addr) : Sp := fun vs H Q _ => ∃ (p c : Addr) (S M : List Addr) (wr : Rg.Bytes) (l : Rg.Log) (t : Rg.Bytes), vs = [.ref p, .ref c] ∧ LogAt CL CM S H p M wr l.length l ∧ Fit l ∧ AllOk l ∧ BytesAt H t c ∧ c ∉ M ∧ t.length ≤ 65536 ∧ wr.length ≤ 65536 ∧ Wrote CL CM S H p M wr l t Q
theorem sc_write : FnScope ["self", "text", "stretches", "line", "why"] ["self", "text"] (defScope s_Log_write) := ⟨rfl, rfl, rfl, by decide +kernel, rfl, by decide +kernel, by decide +kernel⟩
theorem ok_write (F : FunM K CL "write" "Log.write" s_Log_write ["self", "text"]) (T : Txt mg) (C : Cs K CL CM CB) (OC : Ok P w K mg base 1 "cut" ["signs", "mark"] spCut) (OA : OkM P w K mg base CL 7 "add_line" ["self", "line"] (spAddLine CL CM)) :
    OkM P w K mg base CL 8 "write" ["self", "text"] (spWrite CL CM) := by
  refine F.ok sc_write (fun vs H Q E h => ?_) (fun f cdv A outer s H vs Q E hr h => ?_)
  · obtain ⟨p, c, S, M, wr, l, t, rfl, _⟩ := h
    rfl
  · obtain ⟨p, c, S, M, wr, l, t, rfl, L, Ft, Ao, hc, hcM, hlen, hwr, k⟩ := h
    have h1 := hr.mono (show 1 ≤ 7 by decide)
    refine ⟨_, pss_cons (ps_set (i := 2) sc_write.nd rfl (Or.inl rfl) (pe_fn OC h1 (pa_cons (pv 1) (pa_cons (pe_gi T.c_LINE_FEED) pa_nil))))
      (pss_cons (ps_for PassesOwn.never rfl (pi_list (pe_slice sl_list (pv 2) po_none (po_some (pe_un un_neg pe_int)))) (pg_name (i := 3) sc_write.nd rfl (Or.inl rfl))
        (pss_cons (ps_set (i := 4) sc_write.nd rfl (Or.inl rfl) (pe_mt C.cL OA hr (pv 0) (pa_cons (pv 3) pa_nil)))
        (pss_one (ps_if (pt_cmpR op_ne (pv 4) (pe_gi T.c_NO_FAULT) (nomark _)) (pss_one (ps_ret (pv 4))) pss_nil))))
      (pss_cons (ps_if (pt_cmpR op_gt (pe_len T.b_len (pe_ix ix_list (pv 2) (pe_un un_neg pe_int) (fun _ _ => rfl))) pe_int (nomark _)) (pss_one (ps_ret (pe_gi T.c_NOT_FORMED))) pss_nil)
      (pss_cons (ps_expr (pe_ext (pe_fld (pv 0) rfl) (pv 1)))
      (pss_one (ps_ret (pe_gi T.c_NO_FAULT)))))), ?_⟩
    refine ⟨_, rfl, c, t, 10, rfl, hc, by omega, fun H1 ls s1 hls => ?_⟩
    obtain ⟨cl1, cl2⟩ := cut_len 10 t
    rw [lines_last] at hls cl1 cl2
    obtain ⟨as0, ha', hp0⟩ := hls
    have ha := (New.inv ha').2
    obtain ⟨as, z, rfl, hp, hz⟩ := paired_snoc_inv hp0
    refine ⟨_, rfl, _, rfl, _, rfl, ls, _, rfl, SqL.of ha, fun pl hpl => ?_⟩
    have e1 : cutV ((as ++ [z]).map V.ref) none (some (-1)) = as.map V.ref := by rw [cut_last, List.map_append]; exact List.dropLast_concat
    rw [e1]
    have s2 : Same H1 (upd H1 pl (.lst (as.map V.ref))) := Same.new hpl
    have epl : (upd H1 pl (.lst (as.map V.ref))) pl = some (.lst (as.map V.ref)) := upd_same
    generalize hH2 : upd H1 pl (.lst (as.map V.ref)) = H2 at s2 epl ⊢
    have s12 := s1.trans s2
    have offM : ∀ {b : Addr}, H b = none → b ∉ M := fun hb z => L.fresh hb (List.mem_append_left _ z)
    have plM : pl ∉ M := offM (s1.free hpl)
    have lsM : ls ∉ M := offM (New.inv ha').1
    have L2' := L.same s12
    refine ⟨pl, rfl, ⟨_, SqL.of epl⟩, for_list (K := K) (a := pl) (xs := as.map V.ref)
      (fun i σ H' => ∃ (v4 v5 : Option V) (l' : Rg.Log), σ = [some (.ref p), some (.ref c), some (.ref ls), v4, v5] ∧ Keep M H2 H' ∧ LogAt CL CM S H' p M wr l'.length l' ∧ Fit l' ∧ AllOk l' ∧ addLines l (linesOf t) = addLines l' ((linesOf t).drop i))
      ⟨none, none, l, rfl, Keep.refl, L2', Ft, Ao, rfl⟩ (fun i σ H' _ ⟨_, _, _, _, k5, _⟩ => SqL.of (k5 _ _ epl plM)) ?_ ?_⟩
    · rintro i y σ H' hi ⟨v4, v5, l', rfl, k5, L5, F5, A5, hadd⟩
      rw [List.getElem?_map] at hi
      cases e : as[i]? with
      | none => rw [e] at hi; cases hi
      | some d =>
        rw [e] at hi
        have ey : V.ref d = y := Option.some.inj hi
        subst ey
        obtain ⟨b, hb, hd⟩ := paired_getL hp e
        have hd2 : BytesAt H' b d := k5 _ _ (s2 _ _ (New.inv hd).2) (offM (New.inv hd).1)
        have hbl : b.length ≤ 100000 := by
          have := cl2 b (List.mem_append_left _ (List.mem_of_getElem? hb))
          omega
        have hib : i < (linesOf t).length := (List.getElem?_eq_some_iff.mp hb).1
        have hdr : (linesOf t).drop i = b :: (linesOf t).drop (i + 1) := by
          rw [List.drop_eq_getElem_cons hib]
          congr 1
          exact (List.getElem?_eq_some_iff.mp hb).2
        rw [hdr, addLines_judge] at hadd
        obtain ⟨dx, aw, an, ad, am, eM, g1, _⟩ := L5.ex
        refine ⟨_, rfl, p, dx, _, rfl, g1, rfl, _, rfl, p, d, S, M, wr, l', b, rfl, L5, F5, A5, hd2, hbl, fun H6 k6 L6 => ?_⟩
        refine ⟨_, rfl, rfl, _, rfl, ?_⟩
        by_cases hj : (judge1 l' b).1 = 0
        · rw [if_pos hj] at hadd
          obtain ⟨F6, A6⟩ := judge1_fit F5 A5 b hj
          rw [hj]
          exact iteF ⟨_, _, _, rfl, k5.trans k6, L6, F6, A6, hadd⟩
        · rw [if_neg hj] at hadd
          rw [decide_eq_false (show ¬ V.int ((judge1 l' b).1 : Int) = V.int 0 from fun z => hj (by have := V.int.inj z; omega))]
          unfold Wrote write at k
          rw [hadd] at k
          exact iteT ⟨_, rfl, k _ _ ((Keep.of s12).trans (k5.trans k6)) L6⟩
    · rintro σ H' ⟨v4, v5, l', rfl, k5, L5, F5, A5, hadd⟩
      rw [List.length_map, hp.length, List.drop_length] at hadd
      have hz2 : BytesAt H' (lastOf t) z := k5 _ _ (s2 _ _ (New.inv hz).2) (offM (New.inv hz).1)
      have hls2 := k5 _ _ (s2 _ _ ha) lsM
      refine ⟨_, rfl, _, rfl, ls, _, _, V.ref z, rfl, rfl, SqL.of hls2, (by rw [List.map_append]; exact atI_last _ _), z, _, rfl, .inl (SqL.of hz2), _, _, rfl, rfl, _, rfl, ?_⟩
      rw [List.length_map]
      unfold Wrote write at k
      rw [hadd] at k
      replace k : (match (if lastOf t = [] then (Except.ok l' : Except (Nat × Nat) Rg.Log) else .error (l'.length, 1)) with
        | .ok m => ∀ H' : Hp, Keep M H H' → LogAt CL CM S H' p M (wr ++ t) m.length m → Q (.int 0) H'
        | .error e => ∀ (H' : Hp) (l' : Rg.Log), Keep M H H' → LogAt CL CM S H' p M wr e.1 l' → Q (.int (e.2 : Nat)) H') := k
      by_cases hl : lastOf t = []
      · rw [if_pos hl] at k
        rw [hl]
        obtain ⟨dx, aw, an, ad, am, eM, g1, g2, ⟨as', g3, g3'⟩, ⟨ws, g4, g4'⟩, ⟨ms, g5, g5'⟩⟩ := L5.ex
        subst eM
        have hc2 : BytesAt H' t c := k5 _ _ (s12 _ _ hc) hcM
        refine iteF ⟨_, rfl, p, CL, dx, _, _, rfl, g1, C.cL, C.nW, lk_w, .inl ⟨rfl, _, SqL.of g2⟩, _, rfl, aw, c, _, _, rfl, rfl, g2, hc2, (by rw [List.length_map, List.length_map]; exact line_le (by omega)), ?_⟩
        obtain ⟨pw, pn, pd, pm, wn, wd, wm, nd', nm, dm⟩ := nd5 L5.nd
        have inM : aw ∈ [p, aw, an, ad, am] := by simp
        have eo : Off ([p, aw, an, ad, am] ++ S) (upd H' aw (.lst (wr.map bV ++ t.map bV))) = Off ([p, aw, an, ad, am] ++ S) H' := Off.upd (List.mem_append_left _ inM)
        refine k _ (((Keep.of s12).trans k5).upd inM) ⟨⟨dx, aw, an, ad, am, rfl, by rw [upd_ne pw]; exact g1, by show upd _ _ _ _ = _; rw [upd_same, List.map_append], ⟨as', by rw [upd_ne (Ne.symm wn)]; exact g3, by rw [eo]; exact g3'⟩, ⟨ws, by rw [upd_ne (Ne.symm wd)]; exact g4, by rw [eo]; exact g4'⟩, ⟨ms, by rw [upd_ne (Ne.symm wm)]; exact g5, by rw [eo]; exact g5'⟩⟩, L5.nd, L5.ns, fun z hz => ?_⟩
        obtain ⟨o, ho⟩ := L5.live z hz
        refine ⟨o, ?_⟩
        rw [upd_ne (fun q => L5.ns aw inM (by rw [← q]; exact hz))]
        exact ho
      · rw [if_neg hl] at k
        rw [decide_eq_true (show (0 : Int) < ((lastOf t).length : Int) by
          have : 0 < (lastOf t).length := List.length_pos_iff.mpr hl
          omega)]
        exact iteT (k _ _ ((Keep.of s12).trans k5) L5)
end
end Bl
end
section
set_option maxHeartbeats 2000000
namespace Bl
open PySem PySem.Spec PyProof.Rows L2
def bookF (pl : Addr) : List (Str × V) := [("log", .ref pl)]
theorem lk_log {pl : Addr} : (bookF pl).lookup ("log" : Str) = some (V.ref pl) := rfl
structure BookAt (CB CL CM : Addr) (S : List Addr) (H : Hp) (pb : Addr) (l : Rg.Log) : Prop where
  ex : ∃ dx pl M, H pb = some (.ins CB dx (bookF pl)) ∧ LogAt CL CM S H pl M (Rg.logText l) l.length l
  inS : pb ∈ S
  fit : Fit l
  ok : AllOk l
  held : Held l
  size : (Rg.logText l).length ≤ 65536
theorem BookAt.same {CB CL CM : Addr} {S : List Addr} {H H' : Hp} {pb : Addr} {l : Rg.Log} (s : Same H H') (B : BookAt CB CL CM S H pb l) : BookAt CB CL CM S H' pb l := by
  obtain ⟨dx, pl, M, h1, L⟩ := B.ex
  exact ⟨⟨dx, pl, M, s _ _ h1, L.same s⟩, B.inS, B.fit, B.ok, B.held, B.size⟩
def takenR (l0 l : Rg.Log) (t : Rg.Bytes) : Rg.Log × List Int := if 65536 < (Rg.logText l).length + t.length then (l0, [-2]) else match write l t with
  | .ok m => (m, [0])
  | .error e => (l0, [-6, (e.1 : Nat), (e.2 : Nat)])
theorem taken_take (l0 : Rg.Log) (t : Rg.Bytes) : Wqatcu.step l0 (.take t) = ((takenR l0 [] t).1, ⟨(takenR l0 [] t).2.headD 0, (takenR l0 [] t).2.tail⟩) := by
  show Wqatcu.taken l0 t = _
  unfold Wqatcu.taken takenR Wqatcu.LONGEST
  rw [show (Rg.logText []).length + t.length = t.length by show 0 + _ = _; omega, readLog_write]
  by_cases h : 65536 < t.length
  · rw [if_pos h, if_pos h]; rfl
  · rw [if_neg h, if_neg h]
    cases write [] t <;> rfl
theorem taken_more {l0 : Rg.Log} (hl : Held l0) (t : Rg.Bytes) : Wqatcu.step l0 (.more t) = ((takenR l0 l0 t).1, ⟨(takenR l0 l0 t).2.headD 0, (takenR l0 l0 t).2.tail⟩) := by
  show Wqatcu.taken l0 (Rg.logText l0 ++ t) = _
  unfold Wqatcu.taken takenR Wqatcu.LONGEST
  rw [List.length_append, more_write hl]
  by_cases h : 65536 < (Rg.logText l0).length + t.length
  · rw [if_pos h, if_pos h]; rfl
  · rw [if_neg h, if_neg h]
    cases write l0 t <;> rfl
section
variable {P : Program} {w : World} {K : PySem.W.Frag} {mg : Str → Option Value} {base : Heap} {CL CM CB : Addr}
def AnsAt (H H' : Hp) (ans : List Int) (q : Addr) : Prop := H q = none ∧ H' q = some (.lst (ans.map V.int))
def spHold (CB CL CM : Addr) : Sp := fun vs H Q _ => ∃ (pb pl c : Addr) (S M : List Addr) (H0 : Hp) (l0 l : Rg.Log) (t : Rg.Bytes), vs = [.ref pb, .ref pl, .ref c] ∧ BookAt CB CL CM S H0 pb l0 ∧ Same H0 H ∧ (∀ b ∈ M, H0 b = none) ∧ LogAt CL CM S H pl M (Rg.logText l) l.length l ∧ Fit l ∧ AllOk l ∧ (Rg.logText l).length ≤ 65536 ∧
  BytesAt H0 t c ∧ t.length ≤ 65536 ∧ (∀ m, write l t = .ok m → Held m) ∧
  ∀ (H' : Hp) (q : Addr), Keep [pb] H0 H' → BookAt CB CL CM S H' pb (takenR l0 l t).1 → AnsAt H0 H' (takenR l0 l t).2 q → Q (.ref q) H'
theorem sc_hold : FnScope ["self", "log", "text", "why"] ["self", "log", "text"] (defScope s_Book_hold_grown) := ⟨rfl, rfl, rfl, by decide +kernel, rfl, by decide +kernel, by decide +kernel⟩
theorem ok_hold (F : FunM K CB "hold_grown" "Book.hold_grown" s_Book_hold_grown ["self", "log", "text"]) (T : Txt mg) (C : Cs K CL CM CB) (OW : OkM P w K mg base CL 8 "write" ["self", "text"] (spWrite CL CM)) :
    OkM P w K mg base CB 9 "hold_grown" ["self", "log", "text"] (spHold CB CL CM) := by
  refine F.ok sc_hold (fun vs H Q E h => ?_) (fun f cdv A outer s H vs Q E hr h => ?_)
  · obtain ⟨pb, pl, c, S, M, H0, l0, l, t, rfl, _⟩ := h
    rfl
  · obtain ⟨pb, pl, c, S, M, H0, l0, l, t, rfl, B, s0, frM, L, Ft, Ao, hsz, hc, htl, hheld, k⟩ := h
    refine ⟨_, pss_cons (ps_if (pt_cmpR op_gt (pe_op op_add (pe_len T.b_len (pe_fld (pv 1) rfl)) (pe_len T.b_len (pv 2))) (pe_gi T.c_MOST_BYTES) (nomark _)) (pss_one (ps_ret (pe_lst (pa_cons (pe_gi T.c_TOO_LONG) pa_nil)))) pss_nil)
      (pss_cons (ps_set (i := 3) sc_hold.nd rfl (Or.inl rfl) (pe_mt C.cL OW hr (pv 1) (pa_cons (pv 2) pa_nil)))
      (pss_cons (ps_if (pt_cmpR op_ne (pv 3) (pe_gi T.c_NO_FAULT) (nomark _)) (pss_one (ps_ret (pe_lst (pa_cons (pe_gi T.c_FAULTY) (pa_cons (pe_fld (pv 1) rfl) (pa_cons (pv 3) pa_nil)))))) pss_nil)
      (pss_cons (ps_fld (pv 0) (pv 1) rfl)
      (pss_one (ps_ret (pe_lst (pa_cons (pe_gi T.c_DONE) pa_nil))))))), ?_⟩
    obtain ⟨dx, aw, an, ad, am, eM, g1, g2, _⟩ := L.ex
    have hcM : c ∉ M := fun z => by
      have hc' : H0 c = some _ := hc
      rw [frM c z] at hc'
      cases hc'
    have keepH : ∀ {H' : Hp}, Keep M H H' → Same H0 H' := fun kp b o e => kp _ _ (s0 _ _ e) (fun z => by rw [frM b z] at e; cases e)
    refine ⟨_, rfl, pl, CL, dx, _, _, rfl, g1, C.cL, C.nW, lk_w, aw, _, rfl, .inl (SqL.of g2), _, rfl, c, _, rfl, .inl (SqL.of (s0 _ _ hc)), _, _, rfl, rfl, _, _, rfl, rfl, _, rfl, ?_⟩
    rw [List.length_map, List.length_map]
    unfold takenR at k
    by_cases hbig : 65536 < (Rg.logText l).length + t.length
    · rw [if_pos hbig] at k
      rw [decide_eq_true (show (65536 : Int) < ((Rg.logText l).length : Int) + (t.length : Int) by omega)]
      refine iteT ⟨(by show 1 ≤ sizeLine; decide), fun q hq => ?_⟩
      exact k _ q (Keep.of (s0.trans (Same.new hq))) (B.same (s0.trans (Same.new hq))) ⟨s0.free hq, upd_same⟩
    rw [if_neg hbig] at k
    rw [decide_eq_false (show ¬ (65536 : Int) < ((Rg.logText l).length : Int) + (t.length : Int) by omega)]
    refine iteF ⟨_, rfl, pl, dx, _, rfl, g1, rfl, _, rfl, pl, c, S, M, Rg.logText l, l, t, rfl, L, Ft, Ao, s0 _ _ hc, hcM, htl, hsz, ?_⟩
    unfold Wrote
    cases hw : write l t with
    | error e =>
      rw [hw] at k
      replace k : ∀ (H' : Hp) (q : Addr), Keep [pb] H0 H' → BookAt CB CL CM S H' pb l0 → AnsAt H0 H' [-6, (e.1 : Nat), (e.2 : Nat)] q → Q (.ref q) H' := k
      intro H1 l' k1 L1
      obtain ⟨dx1, aw1, an1, ad1, am1, eM1, g11, _⟩ := L1.ex
      have he : e.2 ≠ 0 := by
        intro z
        have := write_err hw
        omega
      refine ⟨_, rfl, rfl, _, rfl, ?_⟩
      rw [decide_eq_false (show ¬ V.int ((e.2 : Nat) : Int) = V.int 0 from fun z => he (by have := V.int.inj z; omega))]
      refine iteT ⟨_, rfl, pl, CL, dx1, _, _, rfl, g11, C.cL, C.nL, lk_l, _, rfl, (by show 3 ≤ sizeLine; decide), fun q hq => ?_⟩
      have s1 := keepH k1
      exact k _ q (Keep.of (s1.trans (Same.new hq))) (B.same (s1.trans (Same.new hq))) ⟨s1.free hq, upd_same⟩
    | ok m =>
      rw [hw] at k
      replace k : ∀ (H' : Hp) (q : Addr), Keep [pb] H0 H' → BookAt CB CL CM S H' pb m → AnsAt H0 H' [0] q → Q (.ref q) H' := k
      intro H1 k1 L1
      have s1 := keepH k1
      obtain ⟨dxb, pl0, M0, b1, _⟩ := B.ex
      refine ⟨_, rfl, rfl, _, rfl, iteF ⟨_, rfl, _, rfl, pb, CB, dxb, _, rfl, s1 _ _ b1, C.cB, C.bL, (by show 1 < 1000; decide), ?_⟩⟩
      rw [show putF "log" (.ref pl) (bookF pl0) = bookF pl from putF_eq _ _ _ _]
      have hpbM : pb ∉ M := fun z => L1.ns pb z B.inS
      refine ⟨(by show 1 ≤ sizeLine; decide), fun q hq => ?_⟩
      have nq : q ≠ pb := fun z => by
        rw [z, upd_same] at hq
        cases hq
      have hq1 : H1 q = none := by rw [upd_ne nq] at hq; exact hq
      have eo : Off (M ++ S) (upd H1 pb (.ins CB dxb (bookF pl))) = Off (M ++ S) H1 := Off.upd (List.mem_append_right _ B.inS)
      have Ln : LogAt CL CM S (upd H1 pb (.ins CB dxb (bookF pl))) pl M (Rg.logText l ++ t) m.length m := by
        obtain ⟨dx1, aw1, an1, ad1, am1, eM1, f1, f2, ⟨as, f3, f3'⟩, ⟨ws, f4, f4'⟩, ⟨ms, f5, f5'⟩⟩ := L1.ex
        have ne : ∀ {b : Addr}, b ∈ M → b ≠ pb := fun hb z => hpbM (by rw [← z]; exact hb)
        refine ⟨⟨dx1, aw1, an1, ad1, am1, eM1, by rw [upd_ne (ne (by rw [eM1]; simp))]; exact f1, by show upd _ _ _ _ = _; rw [upd_ne (ne (by rw [eM1]; simp))]; exact f2, ⟨as, by rw [upd_ne (ne (by rw [eM1]; simp))]; exact f3, by rw [eo]; exact f3'⟩,
          ⟨ws, by rw [upd_ne (ne (by rw [eM1]; simp))]; exact f4, by rw [eo]; exact f4'⟩, ⟨ms, by rw [upd_ne (ne (by rw [eM1]; simp))]; exact f5, by rw [eo]; exact f5'⟩⟩, L1.nd, L1.ns, fun z hz => ?_⟩
        by_cases hz' : z = pb
        · exact ⟨_, by rw [hz']; exact upd_same⟩
        · obtain ⟨o, ho⟩ := L1.live z hz
          exact ⟨o, by rw [upd_ne hz']; exact ho⟩
      have htx := write_text hw
      have sq : Same (upd H1 pb (.ins CB dxb (bookF pl))) (upd (upd H1 pb (.ins CB dxb (bookF pl))) q (.lst ([V.int 0]))) := Same.new hq
      obtain ⟨fm, am'⟩ := write_fit Ft Ao hw
      refine k _ q (fun b o e hb => ?_) ⟨⟨dxb, pl, M, sq _ _ upd_same, by rw [htx]; exact Ln.same sq⟩, B.inS, fm, am', hheld m hw, by rw [htx, List.length_append]; omega⟩ ⟨s1.free hq1, upd_same⟩
      refine sq _ _ ?_
      rw [upd_ne (fun z => hb (by rw [z]; exact List.mem_cons_self))]
      exact s1 _ _ e
theorem new_log {S : List Addr} {H0 H1 : Hp} {p dx aw an ad am : Addr} (np : H0 p = none) (ndx : H0 dx = none) (hnd : [p, aw, an, ad, am].Nodup) (hfr : ∀ b ∈ [aw, an, ad, am], (upd (upd H0 dx (.own p)) p (.ins CL dx [])) b = none) (e1 : H1 p = some (.ins CL dx (logF aw 0 an ad am)))
    (e2 : H1 aw = some (.lst [])) (e3 : H1 an = some (.lst [])) (e4 : H1 ad = some (.lst [])) (e5 : H1 am = some (.lst [])) (s : Same H0 H1) (hS : ∀ b ∈ S, ∃ o, H0 b = some o) :
    (∀ b ∈ [p, aw, an, ad, am], H0 b = none) ∧ LogAt CL CM S H1 p [p, aw, an, ad, am] [] 0 [] := by
  have fr : ∀ b ∈ [p, aw, an, ad, am], H0 b = none := fun b hb => by
    rcases List.mem_cons.mp hb with rfl | hb
    · exact np
    · have h1 := hfr b hb
      have n1 : b ≠ p := fun z => by rw [z, upd_same] at h1; cases h1
      rw [upd_ne n1] at h1
      have n2 : b ≠ dx := fun z => by rw [z, upd_same] at h1; cases h1
      rw [upd_ne n2] at h1
      exact h1
  refine ⟨fr, ⟨dx, aw, an, ad, am, rfl, e1, e2, ⟨[], e3, .nil⟩, ⟨[], e4, .nil⟩, ⟨[], e5, .nil⟩⟩, hnd, fun b hb hz => ?_, fun b hb => ?_⟩
  · obtain ⟨o, ho⟩ := hS b hz
    rw [fr b hb] at ho
    cases ho
  · obtain ⟨o, ho⟩ := hS b hb
    exact ⟨o, s _ _ ho⟩
theorem write_nil_held {t : Rg.Bytes} : ∀ m, write [] t = .ok m → Held m := fun m h => held_take h
def spTake (CB CL CM : Addr) : Sp := fun vs H Q _ => ∃ (pb c : Addr) (S : List Addr) (l : Rg.Log) (t : Rg.Bytes), vs = [.ref pb, .ref c] ∧ BookAt CB CL CM S H pb l ∧ BytesAt H t c ∧ t.length ≤ 65536 ∧
  ∀ (H' : Hp) (q : Addr), Keep [pb] H H' → BookAt CB CL CM S H' pb (takenR l [] t).1 → AnsAt H H' (takenR l [] t).2 q → Q (.ref q) H'
def spMore (CB CL CM : Addr) : Sp := fun vs H Q _ => ∃ (pb c : Addr) (S : List Addr) (l : Rg.Log) (t : Rg.Bytes), vs = [.ref pb, .ref c] ∧ BookAt CB CL CM S H pb l ∧ BytesAt H t c ∧ t.length ≤ 65536 ∧
  ∀ (H' : Hp) (q : Addr), Keep [pb] H H' → BookAt CB CL CM S H' pb (takenR l l t).1 → AnsAt H H' (takenR l l t).2 q → Q (.ref q) H'
theorem sc_take : FnScope ["self", "text"] ["self", "text"] (defScope s_Book_take) := ⟨rfl, rfl, rfl, by decide +kernel, rfl, by decide +kernel, by decide +kernel⟩
theorem sc_more : FnScope ["self", "text"] ["self", "text"] (defScope s_Book_more) := ⟨rfl, rfl, rfl, by decide +kernel, rfl, by decide +kernel, by decide +kernel⟩
theorem ok_take (F : FunM K CB "take" "Book.take" s_Book_take ["self", "text"]) (C : Cs K CL CM CB) (OL : OkC P w K mg base CL 1 "Log" ["self"] (spLogInit CL CM)) (OH : OkM P w K mg base CB 9 "hold_grown" ["self", "log", "text"] (spHold CB CL CM)) :
    OkM P w K mg base CB 10 "take" ["self", "text"] (spTake CB CL CM) := by
  refine F.ok sc_take (fun vs H Q E h => ?_) (fun f cdv A outer s H vs Q E hr h => ?_)
  · obtain ⟨pb, c, S, l, t, rfl, _⟩ := h
    rfl
  · obtain ⟨pb, c, S, l, t, rfl, B, hc, htl, k⟩ := h
    have h2 := hr.mono (show 2 ≤ 9 by decide)
    refine ⟨_, pss_one (ps_ret (pe_mt C.cB OH hr (pv 0) (pa_cons (pe_mk0 OL h2) (pa_cons (pv 1) pa_nil)))), ?_⟩
    obtain ⟨dxb, pl0, M0, b1, L0⟩ := B.ex
    refine ⟨_, rfl, pb, dxb, _, rfl, b1, rfl, ?_⟩
    intro q dq nq ndq neq
    refine ⟨q, dq, rfl, upd_same, fun H1 aw an ad am hnd hfr e1 e2 e3 e4 e5 kp => ⟨rfl, ?_⟩⟩
    have s1 : Same H H1 := Same.made nq ndq kp
    obtain ⟨fr, Ln⟩ := new_log (CM := CM) (S := S) nq ndq hnd hfr e1 e2 e3 e4 e5 s1 L0.live
    exact ⟨_, rfl, pb, q, c, S, _, H, l, [], t, rfl, B, s1, fr, Ln, fit_nil, AllOk.nil, by decide, hc, htl, write_nil_held, k⟩
theorem ok_more (F : FunM K CB "more" "Book.more" s_Book_more ["self", "text"]) (C : Cs K CL CM CB) (OC : OkM P w K mg base CL 3 "copied" ["self"] (spCopied CL CM)) (OH : OkM P w K mg base CB 9 "hold_grown" ["self", "log", "text"] (spHold CB CL CM)) :
    OkM P w K mg base CB 10 "more" ["self", "text"] (spMore CB CL CM) := by
  refine F.ok sc_more (fun vs H Q E h => ?_) (fun f cdv A outer s H vs Q E hr h => ?_)
  · obtain ⟨pb, c, S, l, t, rfl, _⟩ := h
    rfl
  · obtain ⟨pb, c, S, l, t, rfl, B, hc, htl, k⟩ := h
    have h3 := hr.mono (show 3 ≤ 9 by decide)
    refine ⟨_, pss_one (ps_ret (pe_mt C.cB OH hr (pv 0) (pa_cons (pe_mt0 C.cL OC h3 (pe_fld (pv 0) rfl)) (pa_cons (pv 1) pa_nil)))), ?_⟩
    obtain ⟨dxb, pl0, M0, b1, L0⟩ := B.ex
    obtain ⟨dx, aw, an, ad, am, eM, g1, _⟩ := L0.ex
    refine ⟨_, rfl, pb, dxb, _, rfl, b1, rfl, _, rfl, pb, CB, dxb, _, _, rfl, b1, C.cB, C.bL, lk_log, pl0, dx, _, rfl, g1, rfl, pl0, S, M0, _, _, l, rfl, L0, fun H1 q M' s1 fr L1 => ?_⟩
    exact ⟨_, rfl, pb, q, c, S, M', H, l, l, t, rfl, B, s1, fr, L1, B.fit, B.ok, B.size, hc, htl, fun m h => held_more B.held h, k⟩
def spBookInit (CB CL CM : Addr) : Sp := fun vs H Q _ => ∃ (pb dxb : Addr) (S : List Addr), vs = [.ref pb] ∧ H pb = some (.ins CB dxb []) ∧ pb ∈ S ∧ (∀ b ∈ S, ∃ o, H b = some o) ∧
  ∀ H' : Hp, Keep [pb] H H' → BookAt CB CL CM S H' pb [] → Q .non H'
theorem sc_book_init : FnScope ["self"] ["self"] (defScope s_Book_init) := ⟨rfl, rfl, rfl, by decide +kernel, rfl, by decide +kernel, by decide +kernel⟩
theorem ok_book_init (F : FunC K mg CB "Book" "Book.__init__" s_Book_init ["self"]) (C : Cs K CL CM CB) (OL : OkC P w K mg base CL 1 "Log" ["self"] (spLogInit CL CM)) : OkC P w K mg base CB 3 "Book" ["self"] (spBookInit CB CL CM) := by
  refine F.ok sc_book_init (fun vs H Q E h => ?_) (fun f cdv A outer s H vs Q E hr h => ?_)
  · obtain ⟨pb, dxb, S, rfl, _⟩ := h
    rfl
  · obtain ⟨pb, dxb, S, rfl, hp, hS, hlive, k⟩ := h
    refine ⟨_, pss_one (ps_fld (pv 0) (pe_mk0 OL hr) rfl), ?_⟩
    intro q dq nq ndq neq
    refine ⟨q, dq, rfl, upd_same, fun H1 aw an ad am hnd hfr e1 e2 e3 e4 e5 kp => ⟨rfl, ?_⟩⟩
    have s1 : Same H H1 := Same.made nq ndq kp
    obtain ⟨fr, Ln⟩ := new_log (CM := CM) (S := S) nq ndq hnd hfr e1 e2 e3 e4 e5 s1 hlive
    refine ⟨_, rfl, pb, CB, dxb, _, rfl, s1 _ _ hp, C.cB, C.bL, (by decide), ?_⟩
    rw [show putF "log" (.ref q) [] = bookF q from rfl]
    refine k _ (fun b o e hb => ?_) ⟨⟨dxb, q, [q, aw, an, ad, am], upd_same, ?_⟩, hS, fit_nil, AllOk.nil, held_nil, by decide⟩
    · rw [upd_ne (fun z => hb (by rw [z]; exact List.mem_cons_self))]
      exact s1 _ _ e
    · have eo : Off ([q, aw, an, ad, am] ++ S) (upd H1 pb (.ins CB dxb (bookF q))) = Off ([q, aw, an, ad, am] ++ S) H1 := Off.upd (List.mem_append_right _ hS)
      have ne : ∀ {b : Addr}, b ∈ [q, aw, an, ad, am] → b ≠ pb := fun hb z => Ln.ns _ hb (by rw [z]; exact hS)
      refine ⟨⟨dq, aw, an, ad, am, rfl, by rw [upd_ne (ne (by simp))]; exact e1, by show upd _ _ _ _ = _; rw [upd_ne (ne (by simp))]; exact e2, ⟨[], by rw [upd_ne (ne (by simp))]; exact e3, .nil⟩, ⟨[], by rw [upd_ne (ne (by simp))]; exact e4, .nil⟩, ⟨[], by rw [upd_ne (ne (by simp))]; exact e5, .nil⟩⟩, Ln.nd, Ln.ns, fun z hz => ?_⟩
      by_cases hz' : z = pb
      · exact ⟨_, by rw [hz']; exact upd_same⟩
      · obtain ⟨o, ho⟩ := Ln.live z hz
        exact ⟨o, by rw [upd_ne hz']; exact ho⟩
end
end Bl
end
section
set_option maxHeartbeats 2000000
namespace Bl
open PySem PySem.Spec PyProof.Rows L2
def ansText (l : Rg.Log) : List Int := ((Rg.logText l).length : Int) :: (Rg.logText l).map bI
def ansSizes (l : Rg.Log) : List Int := [0, ((Rg.boats l).length : Int), ((Rg.moments l).length : Int), ((Rg.winds l).length : Int)]
def ansName (l : Rg.Log) (i : Nat) : List Int := match (Rg.boats l)[i]? with
  | some n => (n.length : Int) :: n.map bI
  | none => [-4]
def ansBoat (l : Rg.Log) (i m : Nat) : List Int := match (Rg.track l i)[m]? with
  | some x => 0 :: (Rg.hullNums x.2 ++ [x.1.x, x.1.y])
  | none => [-4]
def ansTack (l : Rg.Log) (i m : Nat) : List Int := match (Rg.tacks l i)[m]? with
  | some b => [if b = true then 1 else 2]
  | none => [-4]
def spR0 (CB CL CM : Addr) (ans : Rg.Log → List Int) : Sp := fun vs H Q _ => ∃ (pb : Addr) (S : List Addr) (l : Rg.Log), vs = [.ref pb] ∧ BookAt CB CL CM S H pb l ∧ ∀ (H' : Hp) (q : Addr), Same H H' → AnsAt H H' (ans l) q → Q (.ref q) H'
def spR1 (CB CL CM : Addr) (ans : Rg.Log → Nat → List Int) : Sp := fun vs H Q _ => ∃ (pb : Addr) (S : List Addr) (l : Rg.Log) (i : Nat), vs = [.ref pb, .int (i : Int)] ∧ BookAt CB CL CM S H pb l ∧ ∀ (H' : Hp) (q : Addr), Same H H' → AnsAt H H' (ans l i) q → Q (.ref q) H'
def spR2 (CB CL CM : Addr) (ans : Rg.Log → Nat → Nat → List Int) : Sp := fun vs H Q _ => ∃ (pb : Addr) (S : List Addr) (l : Rg.Log) (i m : Nat), vs = [.ref pb, .int (i : Int), .int (m : Int)] ∧ BookAt CB CL CM S H pb l ∧ ∀ (H' : Hp) (q : Addr), Same H H' → AnsAt H H' (ans l i m) q → Q (.ref q) H'
def spHas (CB CL CM : Addr) (n : Rg.Log → Nat) : Sp := fun vs H Q _ => ∃ (pb : Addr) (S : List Addr) (l : Rg.Log) (i : Nat), vs = [.ref pb, .int (i : Int)] ∧ BookAt CB CL CM S H pb l ∧ Q (.bl (decide (i < n l))) H
section
variable {P : Program} {w : World} {K : PySem.W.Frag} {mg : Str → Option Value} {base : Heap} {CL CM CB : Addr}
theorem sc_has_boat : FnScope ["self", "i"] ["self", "i"] (defScope s_Book_has_boat) := ⟨rfl, rfl, rfl, by decide +kernel, rfl, by decide +kernel, by decide +kernel⟩
theorem sc_has_moment : FnScope ["self", "m"] ["self", "m"] (defScope s_Book_has_moment) := ⟨rfl, rfl, rfl, by decide +kernel, rfl, by decide +kernel, by decide +kernel⟩
theorem dec_lt {i n : Nat} : decide ((i : Int) < (n : Int)) = decide (i < n) := by
  congr 1
  apply propext
  omega
theorem ok_has_boat (F : FunM K CB "has_boat" "Book.has_boat" s_Book_has_boat ["self", "i"]) (T : Txt mg) (C : Cs K CL CM CB) : OkM P w K mg base CB 1 "has_boat" ["self", "i"] (spHas CB CL CM fun l => (Rg.boats l).length) := by
  refine F.ok sc_has_boat (fun vs H Q E h => ?_) (fun f cdv A outer s H vs Q E hr h => ?_)
  · obtain ⟨pb, S, l, i, rfl, _⟩ := h
    rfl
  · obtain ⟨pb, S, l, i, rfl, B, k⟩ := h
    refine ⟨_, pss_one (ps_ret (pe_cmpR op_lt (pv 1) (pe_len T.b_len (pe_fld (pe_fld (pv 0) rfl) rfl)) (nomark _))), ?_⟩
    obtain ⟨dxb, pl, M, b1, L⟩ := B.ex
    obtain ⟨dx, aw, an, ad, am, rfl, g1, g2, ⟨as, g3, g3'⟩, _⟩ := L.ex
    refine ⟨_, rfl, _, rfl, pb, CB, dxb, _, _, rfl, b1, C.cB, C.bL, lk_log, pl, CL, dx, _, _, rfl, g1, C.cL, C.nN, lk_n, an, _, rfl, .inl (SqL.of g3), _, _, rfl, rfl, ?_⟩
    rw [List.length_map, g3'.length]
    show Q (.bl (decide ((i : Int) < ((Rg.boats l).length : Int)))) H
    rw [dec_lt]
    exact k
theorem ok_has_moment (F : FunM K CB "has_moment" "Book.has_moment" s_Book_has_moment ["self", "m"]) (T : Txt mg) (C : Cs K CL CM CB) : OkM P w K mg base CB 1 "has_moment" ["self", "m"] (spHas CB CL CM fun l => (Rg.moments l).length) := by
  refine F.ok sc_has_moment (fun vs H Q E h => ?_) (fun f cdv A outer s H vs Q E hr h => ?_)
  · obtain ⟨pb, S, l, i, rfl, _⟩ := h
    rfl
  · obtain ⟨pb, S, l, i, rfl, B, k⟩ := h
    refine ⟨_, pss_one (ps_ret (pe_cmpR op_lt (pv 1) (pe_len T.b_len (pe_fld (pe_fld (pv 0) rfl) rfl)) (nomark _))), ?_⟩
    obtain ⟨dxb, pl, M, b1, L⟩ := B.ex
    obtain ⟨dx, aw, an, ad, am, rfl, g1, g2, _, _, ⟨ms, g5, g5'⟩⟩ := L.ex
    refine ⟨_, rfl, _, rfl, pb, CB, dxb, _, _, rfl, b1, C.cB, C.bL, lk_log, pl, CL, dx, _, _, rfl, g1, C.cL, C.nM, lk_m, am, _, rfl, .inl (SqL.of g5), _, _, rfl, rfl, ?_⟩
    rw [List.length_map, g5'.length, momsOf_length]
    show Q (.bl (decide ((i : Int) < ((Rg.moments l).length : Int)))) H
    rw [dec_lt]
    exact k
theorem sc_text : FnScope ["self"] ["self"] (defScope s_Book_text) := ⟨rfl, rfl, rfl, by decide +kernel, rfl, by decide +kernel, by decide +kernel⟩
theorem ok_text (F : FunM K CB "text" "Book.text" s_Book_text ["self"]) (T : Txt mg) (C : Cs K CL CM CB) : OkM P w K mg base CB 1 "text" ["self"] (spR0 CB CL CM ansText) := by
  refine F.ok sc_text (fun vs H Q E h => ?_) (fun f cdv A outer s H vs Q E hr h => ?_)
  · obtain ⟨pb, S, l, rfl, _⟩ := h
    rfl
  · obtain ⟨pb, S, l, rfl, B, k⟩ := h
    refine ⟨_, pss_one (ps_ret (pe_op op_cat (pe_lst (pa_cons (pe_len T.b_len (pe_fld (pe_fld (pv 0) rfl) rfl)) pa_nil)) (pe_fld (pe_fld (pv 0) rfl) rfl))), ?_⟩
    obtain ⟨dxb, pl, M, b1, L⟩ := B.ex
    obtain ⟨dx, aw, an, ad, am, rfl, g1, g2, _⟩ := L.ex
    have hsz := B.size
    refine ⟨_, rfl, pb, CB, dxb, _, _, rfl, b1, C.cB, C.bL, lk_log, pl, CL, dx, _, _, rfl, g1, C.cL, C.nW, lk_w, aw, _, rfl, .inl (SqL.of g2), (by show 1 ≤ sizeLine; decide), fun t ht => ?_⟩
    rw [List.length_map]
    have s1 : Same H (upd H t (.lst [V.int ((Rg.logText l).length : Int)])) := Same.new ht
    refine ⟨_, rfl, pb, CB, dxb, _, _, rfl, s1 _ _ b1, C.cB, C.bL, lk_log, pl, CL, dx, _, _, rfl, s1 _ _ g1, C.cL, C.nW, lk_w, t, aw, _, _, rfl, rfl, upd_same, s1 _ _ g2, (by rw [List.length_map]; show 1 + _ ≤ _; exact line_le (by omega)), fun q hq => ?_⟩
    refine k _ q (s1.trans (Same.new hq)) ⟨s1.free hq, ?_⟩
    rw [upd_same, bytes_ints]
    rfl
theorem sc_sizes : FnScope ["self"] ["self"] (defScope s_Book_sizes) := ⟨rfl, rfl, rfl, by decide +kernel, rfl, by decide +kernel, by decide +kernel⟩
theorem ok_sizes (F : FunM K CB "sizes" "Book.sizes" s_Book_sizes ["self"]) (T : Txt mg) (C : Cs K CL CM CB) : OkM P w K mg base CB 1 "sizes" ["self"] (spR0 CB CL CM ansSizes) := by
  refine F.ok sc_sizes (fun vs H Q E h => ?_) (fun f cdv A outer s H vs Q E hr h => ?_)
  · obtain ⟨pb, S, l, rfl, _⟩ := h
    rfl
  · obtain ⟨pb, S, l, rfl, B, k⟩ := h
    refine ⟨_, pss_one (ps_ret (pe_lst (pa_cons (pe_gi T.c_DONE) (pa_cons (pe_len T.b_len (pe_fld (pe_fld (pv 0) rfl) rfl)) (pa_cons (pe_len T.b_len (pe_fld (pe_fld (pv 0) rfl) rfl)) (pa_cons (pe_len T.b_len (pe_fld (pe_fld (pv 0) rfl) rfl)) pa_nil)))))), ?_⟩
    obtain ⟨dxb, pl, M, b1, L⟩ := B.ex
    obtain ⟨dx, aw, an, ad, am, rfl, g1, g2, ⟨as, g3, g3'⟩, ⟨ws, g4, g4'⟩, ⟨ms, g5, g5'⟩⟩ := L.ex
    refine ⟨_, rfl, pb, CB, dxb, _, _, rfl, b1, C.cB, C.bL, lk_log, pl, CL, dx, _, _, rfl, g1, C.cL, C.nN, lk_n, an, _, rfl, .inl (SqL.of g3),
      _, rfl, pb, CB, dxb, _, _, rfl, b1, C.cB, C.bL, lk_log, pl, CL, dx, _, _, rfl, g1, C.cL, C.nM, lk_m, am, _, rfl, .inl (SqL.of g5),
      _, rfl, pb, CB, dxb, _, _, rfl, b1, C.cB, C.bL, lk_log, pl, CL, dx, _, _, rfl, g1, C.cL, C.nD, lk_d, ad, _, rfl, .inl (SqL.of g4), (by show 4 ≤ sizeLine; decide), fun q hq => ?_⟩
    refine k _ q (Same.new hq) ⟨hq, ?_⟩
    rw [upd_same, List.length_map, List.length_map, List.length_map, g3'.length, g4'.length, g5'.length, momsOf_length]
    rfl
theorem sc_name : FnScope ["self", "i"] ["self", "i"] (defScope s_Book_name) := ⟨rfl, rfl, rfl, by decide +kernel, rfl, by decide +kernel, by decide +kernel⟩
theorem name_short {l : Rg.Log} (A : AllOk l) {n : Rg.Bytes} (h : n ∈ Rg.boats l) : n.length ≤ 12 := by
  unfold Rg.boats at h
  obtain ⟨x, hx, e⟩ := List.mem_filterMap.mp h
  cases x with
  | boat m =>
    have e' : m = n := Option.some.inj e
    subst e'
    have := A _ hx
    replace this : Rg.nameOk m = true := this
    unfold Rg.nameOk at this
    rw [Bool.and_eq_true, Bool.and_eq_true, decide_eq_true_iff, decide_eq_true_iff] at this
    exact this.2.1
  | wind _ => cases e
  | at_ _ => cases e
theorem ok_name (F : FunM K CB "name" "Book.name" s_Book_name ["self", "i"]) (T : Txt mg) (C : Cs K CL CM CB) (OB : OkM P w K mg base CB 1 "has_boat" ["self", "i"] (spHas CB CL CM fun l => (Rg.boats l).length)) : OkM P w K mg base CB 2 "name" ["self", "i"] (spR1 CB CL CM ansName) := by
  refine F.ok sc_name (fun vs H Q E h => ?_) (fun f cdv A outer s H vs Q E hr h => ?_)
  · obtain ⟨pb, S, l, i, rfl, _⟩ := h
    rfl
  · obtain ⟨pb, S, l, i, rfl, B, k⟩ := h
    refine ⟨_, pss_cons (ps_if (pt_not (pt_val (pe_mt C.cB OB hr (pv 0) (pa_cons (pv 1) pa_nil)))) (pss_one (ps_ret (pe_lst (pa_cons (pe_gi T.c_NO_SUCH) pa_nil)))) pss_nil)
      (pss_one (ps_ret (pe_op op_cat (pe_lst (pa_cons (pe_len T.b_len (pe_ix ix_list (pe_fld (pe_fld (pv 0) rfl) rfl) (pv 1) (fun _ _ => rfl))) pa_nil)) (pe_ix ix_list (pe_fld (pe_fld (pv 0) rfl) rfl) (pv 1) (fun _ _ => rfl))))), ?_⟩
    obtain ⟨dxb, pl, M, b1, L⟩ := B.ex
    obtain ⟨dx, aw, an, ad, am, rfl, g1, g2, ⟨as, g3, g3'⟩, _⟩ := L.ex
    refine ⟨_, rfl, pb, dxb, _, rfl, b1, rfl, _, rfl, pb, S, l, i, rfl, B, _, rfl, ?_⟩
    unfold ansName at k
    by_cases hi : i < (Rg.boats l).length
    · rw [decide_eq_true hi]
      have en := List.getElem?_eq_getElem hi
      generalize (Rg.boats l)[i] = nm at en
      rw [en] at k
      have hlen := name_short B.ok (List.mem_of_getElem? en)
      obtain ⟨c, e1, e2⟩ := paired_get g3' en
      have hc : BytesAt H nm c := e2.same Off.sub
      have hat : atI (as.map V.ref) (i : Int) = some (.ref c) := atI_nat (by rw [List.getElem?_map, e1]; rfl)
      refine iteF ⟨_, rfl, pb, CB, dxb, _, _, rfl, b1, C.cB, C.bL, lk_log, pl, CL, dx, _, _, rfl, g1, C.cL, C.nN, lk_n, _, rfl, an, _, _, _, rfl, rfl, SqL.of g3, hat, c, _, rfl, .inl (SqL.of hc), (by show 1 ≤ sizeLine; decide), fun t ht => ?_⟩
      rw [List.length_map]
      have s1 : Same H (upd H t (.lst [V.int (nm.length : Int)])) := Same.new ht
      refine ⟨_, rfl, pb, CB, dxb, _, _, rfl, s1 _ _ b1, C.cB, C.bL, lk_log, pl, CL, dx, _, _, rfl, s1 _ _ g1, C.cL, C.nN, lk_n, _, rfl, an, _, _, _, rfl, rfl, SqL.of (s1 _ _ g3), hat, t, c, _, _, rfl, rfl, upd_same, s1 _ _ hc, (by rw [List.length_map]; show 1 + _ ≤ _; exact line_le (by omega)), fun q hq => ?_⟩
      refine k _ q (s1.trans (Same.new hq)) ⟨s1.free hq, ?_⟩
      rw [upd_same, bytes_ints]
      rfl
    · rw [decide_eq_false hi]
      rw [List.getElem?_eq_none_iff.mpr (by omega)] at k
      exact iteT ⟨(by show 1 ≤ sizeLine; decide), fun q hq => k _ q (Same.new hq) ⟨hq, upd_same⟩⟩
end
end Bl
end
section
set_option maxHeartbeats 2000000
namespace Bl
open PySem PySem.Spec PyProof.Rows L2
theorem moms_get {l : Rg.Log} (F : Fit l) {i m : Nat} (hi : i < (Rg.boats l).length) (hm : m < (Rg.moments l).length) : ∃ (mo : Mom) (ts : List Bool) (h : Rg.Hull) (t : Bool), (momsOf l)[m]? = some (mo, ts) ∧ (Rg.moments l)[m]? = some mo ∧ mo.2[i]? = some h ∧ ts[i]? = some t ∧ (Rg.track l i)[m]? = some (mo.1, h) ∧ (Rg.tacks l i)[m]? = some t := by
  have em := List.getElem?_eq_getElem hm
  generalize (Rg.moments l)[m] = mo at em
  have hlt : m < (tacksOf l).length := by unfold tacksOf; rw [tacksAll_length]; exact hm
  have et := List.getElem?_eq_getElem hlt
  generalize (tacksOf l)[m] = ts at et
  have hmo : mo.2.length = (Rg.boats l).length := F.each mo (List.mem_of_getElem? em)
  have hts : ts.length = (Rg.boats l).length := tacksAll_each F.each (List.length_replicate ..) ts (List.mem_of_getElem? et)
  have eh := List.getElem?_eq_getElem (show i < mo.2.length by omega)
  generalize mo.2[i] = h at eh
  have ett := List.getElem?_eq_getElem (show i < ts.length by omega)
  generalize ts[i] = t at ett
  refine ⟨mo, ts, h, t, ?_, em, eh, ett, ?_, ?_⟩
  · unfold momsOf
    exact List.getElem?_zip_eq_some.mpr ⟨em, et⟩
  · rw [track_eq, track_get F.each hi, em]
    show (mo.2[i]?).map _ = _
    rw [eh]
    rfl
  · rw [tacks_log F hi, et]
    exact ett
theorem track_out {l : Rg.Log} (F : Fit l) {i m : Nat} (h : ¬ (i < (Rg.boats l).length ∧ m < (Rg.moments l).length)) : (Rg.track l i)[m]? = none ∧ (Rg.tacks l i)[m]? = none := by
  by_cases hi : i < (Rg.boats l).length
  · have hm : ¬ m < (Rg.moments l).length := fun z => h ⟨hi, z⟩
    constructor
    · rw [track_eq, track_get F.each hi, List.getElem?_eq_none_iff.mpr (by omega)]
      rfl
    · rw [tacks_log F hi, List.getElem?_eq_none_iff.mpr (by unfold tacksOf; rw [tacksAll_length]; omega)]
      rfl
  · constructor
    · rw [track_eq, track_none F.each hi]
      rfl
    · rw [tacks_none F hi]
      rfl
section
variable {P : Program} {w : World} {K : PySem.W.Frag} {mg : Str → Option Value} {base : Heap} {CL CM CB : Addr}
theorem sc_boat : FnScope ["self", "i", "m", "moment"] ["self", "i", "m"] (defScope s_Book_boat) := ⟨rfl, rfl, rfl, by decide +kernel, rfl, by decide +kernel, by decide +kernel⟩
theorem sc_tackB : FnScope ["self", "i", "m"] ["self", "i", "m"] (defScope s_Book_tack) := ⟨rfl, rfl, rfl, by decide +kernel, rfl, by decide +kernel, by decide +kernel⟩
theorem ok_boat (F : FunM K CB "boat" "Book.boat" s_Book_boat ["self", "i", "m"]) (T : Txt mg) (C : Cs K CL CM CB) (OB : OkM P w K mg base CB 1 "has_boat" ["self", "i"] (spHas CB CL CM fun l => (Rg.boats l).length)) (OM : OkM P w K mg base CB 1 "has_moment" ["self", "m"] (spHas CB CL CM fun l => (Rg.moments l).length)) :
    OkM P w K mg base CB 2 "boat" ["self", "i", "m"] (spR2 CB CL CM ansBoat) := by
  refine F.ok sc_boat (fun vs H Q E h => ?_) (fun f cdv A outer s H vs Q E hr h => ?_)
  · obtain ⟨pb, S, l, i, m, rfl, _⟩ := h
    rfl
  · obtain ⟨pb, S, l, i, m, rfl, B, k⟩ := h
    refine ⟨_, pss_cons (ps_if (pt_imp (t' := fun σ H' Q' => σ = [some (.ref pb), some (.int (i : Int)), some (.int (m : Int)), none] ∧ H' = H ∧ Q' (!decide (i < (Rg.boats l).length ∧ m < (Rg.moments l).length)) H)
          (pw_or (pt_not (pt_val (pe_mt C.cB OB hr (pv 0) (pa_cons (pv 1) pa_nil)))) (pw_or1 (pt_not (pt_val (pe_mt C.cB OM hr (pv 0) (pa_cons (pv 2) pa_nil)))))).pt ?c1) (pss_one (ps_ret (pe_lst (pa_cons (pe_gi T.c_NO_SUCH) pa_nil)))) pss_nil)
      (pss_cons (ps_set (i := 3) sc_boat.nd rfl (Or.inl rfl) (pe_ix ix_list (pe_fld (pe_fld (pv 0) rfl) rfl) (pv 2) (fun _ _ => rfl)))
      (pss_one (ps_ret (pe_op op_cat (pe_op op_cat (pe_lst (pa_cons (pe_gi T.c_DONE) pa_nil)) (pe_callTy call_list_of rfl T.b_list boot_list0 (pa_cons (pe_ix ix_list (pe_fld (pv 3) rfl) (pv 1) (fun _ _ => rfl)) pa_nil))) (pe_callTy call_list_of rfl T.b_list boot_list0 (pa_cons (pe_fld (pv 3) rfl) pa_nil)))))), ?_⟩
    all_goals obtain ⟨dxb, pl, M, b1, L⟩ := B.ex
    case c1 =>
      rintro σ H' Q' ⟨rfl, rfl, q⟩
      refine ⟨_, rfl, pb, dxb, _, rfl, b1, rfl, _, rfl, pb, S, l, i, rfl, B, _, rfl, ?_⟩
      by_cases hi : i < (Rg.boats l).length
      · rw [decide_eq_true hi]
        refine iteF ⟨_, rfl, pb, dxb, _, rfl, b1, rfl, _, rfl, pb, S, l, m, rfl, B, _, rfl, ?_⟩
        rw [show decide (i < (Rg.boats l).length ∧ m < (Rg.moments l).length) = decide (m < (Rg.moments l).length) by congr 1; exact propext ⟨fun z => z.2, fun z => ⟨hi, z⟩⟩] at q
        exact q
      · rw [decide_eq_false hi]
        rw [decide_eq_false (fun z => hi z.1)] at q
        exact iteT q
    obtain ⟨dx, aw, an, ad, am, rfl, g1, g2, _, _, ⟨ms, g5, g5'⟩⟩ := L.ex
    refine ⟨rfl, rfl, ?_⟩
    unfold ansBoat at k
    by_cases hb : i < (Rg.boats l).length ∧ m < (Rg.moments l).length
    · rw [decide_eq_true hb]
      obtain ⟨mo, ts, h, t, e1, e2, e3, e4, e5, e6⟩ := moms_get B.fit hb.1 hb.2
      rw [e5] at k
      obtain ⟨a, ea, ra⟩ := paired_get g5' e1
      obtain ⟨dm, ah, au, at_, f1, ⟨hs, f2, f2'⟩, f3, f4⟩ := ra.ex
      obtain ⟨c, ec, rc⟩ := paired_get f2' e3
      have f1' := (Off.inv f1).2
      have f2'' := (Off.inv f2).2
      have f3' : PtAt H mo.1 au := f3.same Off.sub
      have rc' : HullAt H h c := rc.same Off.sub
      refine iteF ⟨_, rfl, pb, CB, dxb, _, _, rfl, b1, C.cB, C.bL, lk_log, pl, CL, dx, _, _, rfl, g1, C.cL, C.nM, lk_m, _, rfl, am, _, _, V.ref a, rfl, rfl, SqL.of g5, atI_nat (by rw [List.getElem?_map, ea]; rfl), ?_⟩
      refine ⟨(by show 1 ≤ sizeLine; decide), fun t1 ht1 => ?_⟩
      have s1 : Same H (upd H t1 (.lst [V.int 0])) := Same.new ht1
      have v1 : (upd H t1 (.lst [V.int 0])) t1 = some (.lst [V.int 0]) := upd_same
      generalize upd H t1 (.lst [V.int 0]) = H1 at s1 v1 ⊢
      refine ⟨_, rfl, a, CM, dm, _, _, rfl, s1 _ _ f1', C.cM, C.mH, lk_h, _, rfl, ah, _, _, V.ref c, rfl, rfl, SqL.of (s1 _ _ f2''), atI_nat (by rw [List.getElem?_map, ec]; rfl), c, _, rfl, .inr (SqT.of (s1 _ _ rc')), fun t2 ht2 => ?_⟩
      have s2 := Same.new (o := .lst [V.int h.bow.x, V.int h.bow.y, V.int h.stern.x, V.int h.stern.y]) ht2
      have v2 : (upd H1 t2 (.lst [V.int h.bow.x, V.int h.bow.y, V.int h.stern.x, V.int h.stern.y])) t2 = some (.lst [V.int h.bow.x, V.int h.bow.y, V.int h.stern.x, V.int h.stern.y]) := upd_same
      generalize upd H1 t2 (.lst [V.int h.bow.x, V.int h.bow.y, V.int h.stern.x, V.int h.stern.y]) = H2 at s2 v2 ⊢
      refine ⟨t1, t2, _, _, rfl, rfl, s2 _ _ v1, v2, (by show 5 ≤ sizeLine; decide), fun t3 ht3 => ?_⟩
      have s3 := Same.new (o := .lst ([V.int 0] ++ [V.int h.bow.x, V.int h.bow.y, V.int h.stern.x, V.int h.stern.y])) ht3
      have v3 : (upd H2 t3 (.lst ([V.int 0] ++ [V.int h.bow.x, V.int h.bow.y, V.int h.stern.x, V.int h.stern.y]))) t3 = some (.lst ([V.int 0] ++ [V.int h.bow.x, V.int h.bow.y, V.int h.stern.x, V.int h.stern.y])) := upd_same
      generalize upd H2 t3 (.lst ([V.int 0] ++ [V.int h.bow.x, V.int h.bow.y, V.int h.stern.x, V.int h.stern.y])) = H3 at s3 v3 ⊢
      have s13 := s1.trans (s2.trans s3)
      refine ⟨_, rfl, a, CM, dm, _, _, rfl, s13 _ _ f1', C.cM, C.mW, lk_u, au, _, rfl, .inr (SqT.of (s13 _ _ f3')), fun t4 ht4 => ?_⟩
      have s4 := Same.new (o := .lst [V.int mo.1.x, V.int mo.1.y]) ht4
      have v4 : (upd H3 t4 (.lst [V.int mo.1.x, V.int mo.1.y])) t4 = some (.lst [V.int mo.1.x, V.int mo.1.y]) := upd_same
      generalize upd H3 t4 (.lst [V.int mo.1.x, V.int mo.1.y]) = H4 at s4 v4 ⊢
      refine ⟨t3, t4, _, _, rfl, rfl, s4 _ _ v3, v4, (by show 7 ≤ sizeLine; decide), fun q hq => ?_⟩
      exact k _ q (s13.trans (s4.trans (Same.new hq))) ⟨s13.free (s4.free hq), upd_same⟩
    · rw [decide_eq_false hb]
      rw [(track_out B.fit hb).1] at k
      exact iteT ⟨(by show 1 ≤ sizeLine; decide), fun q hq => k _ q (Same.new hq) ⟨hq, upd_same⟩⟩
theorem ok_tackB (F : FunM K CB "tack" "Book.tack" s_Book_tack ["self", "i", "m"]) (T : Txt mg) (C : Cs K CL CM CB) (OB : OkM P w K mg base CB 1 "has_boat" ["self", "i"] (spHas CB CL CM fun l => (Rg.boats l).length)) (OM : OkM P w K mg base CB 1 "has_moment" ["self", "m"] (spHas CB CL CM fun l => (Rg.moments l).length)) :
    OkM P w K mg base CB 2 "tack" ["self", "i", "m"] (spR2 CB CL CM ansTack) := by
  refine F.ok sc_tackB (fun vs H Q E h => ?_) (fun f cdv A outer s H vs Q E hr h => ?_)
  · obtain ⟨pb, S, l, i, m, rfl, _⟩ := h
    rfl
  · obtain ⟨pb, S, l, i, m, rfl, B, k⟩ := h
    refine ⟨_, pss_cons (ps_if (pt_imp (t' := fun σ H' Q' => σ = [some (.ref pb), some (.int (i : Int)), some (.int (m : Int))] ∧ H' = H ∧ Q' (!decide (i < (Rg.boats l).length ∧ m < (Rg.moments l).length)) H)
          (pw_or (pt_not (pt_val (pe_mt C.cB OB hr (pv 0) (pa_cons (pv 1) pa_nil)))) (pw_or1 (pt_not (pt_val (pe_mt C.cB OM hr (pv 0) (pa_cons (pv 2) pa_nil)))))).pt ?c1) (pss_one (ps_ret (pe_lst (pa_cons (pe_gi T.c_NO_SUCH) pa_nil)))) pss_nil)
      (pss_one (ps_ret (pe_lst (pa_cons (pe_ix ix_list (pe_fld (pe_ix ix_list (pe_fld (pe_fld (pv 0) rfl) rfl) (pv 2) (fun _ _ => rfl)) rfl) (pv 1) (fun _ _ => rfl)) pa_nil)))), ?_⟩
    all_goals obtain ⟨dxb, pl, M, b1, L⟩ := B.ex
    case c1 =>
      rintro σ H' Q' ⟨rfl, rfl, q⟩
      refine ⟨_, rfl, pb, dxb, _, rfl, b1, rfl, _, rfl, pb, S, l, i, rfl, B, _, rfl, ?_⟩
      by_cases hi : i < (Rg.boats l).length
      · rw [decide_eq_true hi]
        refine iteF ⟨_, rfl, pb, dxb, _, rfl, b1, rfl, _, rfl, pb, S, l, m, rfl, B, _, rfl, ?_⟩
        rw [show decide (i < (Rg.boats l).length ∧ m < (Rg.moments l).length) = decide (m < (Rg.moments l).length) by congr 1; exact propext ⟨fun z => z.2, fun z => ⟨hi, z⟩⟩] at q
        exact q
      · rw [decide_eq_false hi]
        rw [decide_eq_false (fun z => hi z.1)] at q
        exact iteT q
    obtain ⟨dx, aw, an, ad, am, rfl, g1, g2, _, _, ⟨ms, g5, g5'⟩⟩ := L.ex
    refine ⟨rfl, rfl, ?_⟩
    unfold ansTack at k
    by_cases hb : i < (Rg.boats l).length ∧ m < (Rg.moments l).length
    · rw [decide_eq_true hb]
      obtain ⟨mo, ts, h, t, e1, e2, e3, e4, e5, e6⟩ := moms_get B.fit hb.1 hb.2
      rw [e6] at k
      obtain ⟨a, ea, ra⟩ := paired_get g5' e1
      obtain ⟨dm, ah, au, at_, f1, _, f3, f4⟩ := ra.ex
      have f1' := (Off.inv f1).2
      have f4' := (Off.inv f4).2
      refine iteF ⟨_, rfl, pb, CB, dxb, _, _, rfl, b1, C.cB, C.bL, lk_log, pl, CL, dx, _, _, rfl, g1, C.cL, C.nM, lk_m, _, rfl, am, _, _, V.ref a, rfl, rfl, SqL.of g5, atI_nat (by rw [List.getElem?_map, ea]; rfl), a, CM, dm, _, _, rfl, f1', C.cM, C.mT, lk_t, _, rfl, at_, _, _, tV t, rfl, rfl, SqL.of f4', atI_nat (by rw [List.getElem?_map, e4]; rfl),
        (by show 1 ≤ sizeLine; decide), fun q hq => k _ q (Same.new hq) ⟨hq, upd_same⟩⟩
    · rw [decide_eq_false hb]
      rw [(track_out B.fit hb).2] at k
      exact iteT ⟨(by show 1 ≤ sizeLine; decide), fun q hq => k _ q (Same.new hq) ⟨hq, upd_same⟩⟩
end
end Bl
end
section
namespace Bl
open Rg
theorem nn_of_mul {k z : Int} (hk : 0 < k) (h : 0 ≤ k * z) : 0 ≤ z := Int.le_of_mul_le_mul_left (by rw [Int.mul_zero]; exact h) hk
theorem np_of_mul {k z : Int} (hk : 0 < k) (h : k * z ≤ 0) : z ≤ 0 := Int.le_of_mul_le_mul_left (by rw [Int.mul_zero]; exact h) hk
theorem np_of_neg_mul {k z : Int} (hk : k < 0) (h : 0 ≤ k * z) : z ≤ 0 := np_of_mul (k := -k) (by omega) (by rw [Int.neg_mul]; omega)
theorem mul_np {k z : Int} (hk : 0 < k) (h : z ≤ 0) : k * z ≤ 0 := by
  have := Int.mul_le_mul_of_nonneg_left h (Int.le_of_lt hk)
  rwa [Int.mul_zero] at this
theorem dot_pos {p q : Pt} (h : p ≠ q) : 0 < dot (q.sub p) (q.sub p) := by
  have h1 : (q.x - p.x) * (q.x - p.x) + (q.y - p.y) * (q.y - p.y) = dot (q.sub p) (q.sub p) := rfl
  rw [← h1]
  have a := sq_nonneg (q.x - p.x)
  have b := sq_nonneg (q.y - p.y)
  by_cases hx : q.x - p.x = 0
  · by_cases hy : q.y - p.y = 0
    · exfalso
      apply h
      cases p
      cases q
      simp only [Pt.mk.injEq] at *
      omega
    · have : (q.y - p.y) * (q.y - p.y) ≠ 0 := Int.mul_ne_zero hy hy
      omega
  · have : (q.x - p.x) * (q.x - p.x) ≠ 0 := Int.mul_ne_zero hx hx
    omega
theorem reach_lo (p q c d : Pt) : reach p q (along c d (-(leftOf p q c)) (leftOf p q d - leftOf p q c)) (leftOf p q d - leftOf p q c) = dot (q.sub p) (q.sub p) * leftOf c d p := by
  unfold reach along leftOf cross dot Pt.sub
  grind
theorem reach_hi (p q c d : Pt) : reach p q (along c d (-(leftOf p q c)) (leftOf p q d - leftOf p q c)) (leftOf p q d - leftOf p q c) - (leftOf p q d - leftOf p q c) * dot (q.sub p) (q.sub p) = dot (q.sub p) (q.sub p) * leftOf c d q := by
  unfold reach along leftOf cross dot Pt.sub
  grind
def goesOver (p q c d : Pt) : Bool := decide (leftOf p q c ≤ 0) && (decide (0 < leftOf p q d) && (decide (0 ≤ leftOf c d p) && decide (leftOf c d q ≤ 0)))
def whenOver (p q c d : Pt) : Nat × Nat := let n := (-(leftOf p q c)).toNat
  let m := (leftOf p q d - leftOf p q c).toNat
  (n / Nat.gcd n m, m / Nat.gcd n m)
theorem over_eq {p q : Pt} (hne : p ≠ q) (c d : Pt) : over p q c d = if goesOver p q c d = true then some (whenOver p q c d) else none := by
  unfold over goesOver whenOver
  have hk := dot_pos hne
  have h1 := reach_lo p q c d
  have h2 := reach_hi p q c d
  simp only [Bool.and_eq_true, decide_eq_true_iff]
  generalize hr : reach p q (along c d (-(leftOf p q c)) (leftOf p q d - leftOf p q c)) (leftOf p q d - leftOf p q c) = r at *
  generalize hK : dot (q.sub p) (q.sub p) = K at *
  by_cases hs : leftOf p q c ≤ 0 ∧ 0 < leftOf p q d
  · rw [if_pos hs]
    by_cases hc : 0 ≤ leftOf c d p ∧ leftOf c d q ≤ 0
    · have hr' : 0 ≤ r ∧ r ≤ (leftOf p q d - leftOf p q c) * K := by
        constructor
        · rw [h1]
          exact Int.mul_nonneg (Int.le_of_lt hk) hc.1
        · have := mul_np hk hc.2
          omega
      rw [if_pos hr', if_pos ⟨hs.1, hs.2, hc.1, hc.2⟩]
    · have hr' : ¬ (0 ≤ r ∧ r ≤ (leftOf p q d - leftOf p q c) * K) := by
        rintro ⟨a, b⟩
        apply hc
        constructor
        · rw [h1] at a
          exact nn_of_mul hk a
        · exact np_of_mul hk (by omega)
      rw [if_neg hr', if_neg (fun z => hc ⟨z.2.2.1, z.2.2.2⟩)]
  · rw [if_neg hs, if_neg (fun z => hs ⟨z.1, z.2.1⟩)]
theorem form_np {x1 x2 y1 y2 z1 z2 : Int} (hk : x1 * y2 = x2 * y1) (hP : x1 * y1 ≤ 0) (hQ : x2 * y2 ≤ 0) : (z1 * x2 - z2 * x1) * (z1 * y2 - z2 * y1) ≤ 0 := by
  by_cases h1 : x2 * y2 < 0
  · have e : (x2 * y2) * ((z1 * x2 - z2 * x1) * (z1 * y2 - z2 * y1)) = (z1 * (x2 * y2) - z2 * (x1 * y2)) * (z1 * (x2 * y2) - z2 * (x1 * y2)) := by grind
    exact np_of_neg_mul h1 (by rw [e]; exact sq_nonneg _)
  · by_cases h2 : x1 * y1 < 0
    · have e : (x1 * y1) * ((z1 * x2 - z2 * x1) * (z1 * y2 - z2 * y1)) = (z2 * (x1 * y1) - z1 * (x1 * y2)) * (z2 * (x1 * y1) - z1 * (x1 * y2)) := by grind
      exact np_of_neg_mul h2 (by rw [e]; exact sq_nonneg _)
    · have p0 : x1 * y1 = 0 := by omega
      have q0 : x2 * y2 = 0 := by omega
      have kk : (x1 * y2) * (x1 * y2) = 0 := by
        have : (x1 * y2) * (x1 * y2) = (x1 * y1) * (x2 * y2) := by grind
        rw [this, p0, Int.zero_mul]
      have k0 : x1 * y2 = 0 := by
        rcases Int.mul_eq_zero.mp kk with h | h <;> exact h
      have : (z1 * x2 - z2 * x1) * (z1 * y2 - z2 * y1) = 0 := by grind
      omega
theorem np_of_form {x1 x2 y1 y2 z1 z2 : Int} (hk : x1 * y2 = x2 * y1) (hE : (z1 * x2 - z2 * x1) * (z1 * y2 - z2 * y1) ≤ 0) (hz : z1 * (y2 - x2) - z2 * (y1 - x1) ≠ 0) : x1 * y1 ≤ 0 := by
  by_cases h : x1 * y1 ≤ 0
  · exact h
  exfalso
  have hP : 0 < x1 * y1 := by omega
  have e : (x1 * y1) * ((z1 * x2 - z2 * x1) * (z1 * y2 - z2 * y1)) = (z2 * (x1 * y1) - z1 * (x1 * y2)) * (z2 * (x1 * y1) - z1 * (x1 * y2)) := by grind
  have h1 := mul_np hP hE
  have h2 := sq_nonneg (z2 * (x1 * y1) - z1 * (x1 * y2))
  rw [e] at h1
  have h3 : (z2 * (x1 * y1) - z1 * (x1 * y2)) * (z2 * (x1 * y1) - z1 * (x1 * y2)) = 0 := by omega
  have h4 : z2 * (x1 * y1) - z1 * (x1 * y2) = 0 := by
    rcases Int.mul_eq_zero.mp h3 with h | h <;> exact h
  have hx : x1 ≠ 0 := by
    intro z
    rw [z, Int.zero_mul] at hP
    omega
  have hy : y1 ≠ 0 := by
    intro z
    rw [z, Int.mul_zero] at hP
    omega
  have h5 : x1 * (z2 * y1 - z1 * y2) = 0 := by grind
  have h6 : y1 * (z2 * x1 - z1 * x2) = 0 := by grind
  have h7 : z2 * y1 - z1 * y2 = 0 := (Int.mul_eq_zero.mp h5).resolve_left hx
  have h8 : z2 * x1 - z1 * x2 = 0 := (Int.mul_eq_zero.mp h6).resolve_left hy
  exact hz (by grind)
theorem mid_iff (a b c : Int) : (min a b ≤ c ∧ c ≤ max a b) ↔ (a - c) * (b - c) ≤ 0 := by
  constructor
  · rintro ⟨h1, h2⟩
    by_cases h : a ≤ c
    · have hb : a - c ≤ 0 := by omega
      by_cases hac : a = c
      · rw [hac, Int.sub_self, Int.zero_mul]; exact Int.le_refl _
      · have : 0 ≤ b - c := by omega
        exact Int.mul_nonpos_of_nonpos_of_nonneg hb this
    · have hb : b - c ≤ 0 := by omega
      have : 0 ≤ a - c := by omega
      exact Int.mul_nonpos_of_nonneg_of_nonpos this hb
  · intro h
    by_cases h1 : min a b ≤ c
    · by_cases h2 : c ≤ max a b
      · exact ⟨h1, h2⟩
      · have := Int.mul_pos (show 0 < c - a by omega) (show 0 < c - b by omega)
        have e : (c - a) * (c - b) = (a - c) * (b - c) := by grind
        omega
    · have := Int.mul_pos (show 0 < a - c by omega) (show 0 < b - c by omega)
      omega
theorem between_iff (a b c : Pt) : between a b c = true ↔ leftOf a b c = 0 ∧ (a.x - c.x) * (b.x - c.x) ≤ 0 ∧ (a.y - c.y) * (b.y - c.y) ≤ 0 := by
  unfold between
  rw [Bool.and_eq_true, Bool.and_eq_true, Bool.and_eq_true, Bool.and_eq_true, beq_iff_eq, decide_eq_true_iff, decide_eq_true_iff, decide_eq_true_iff, decide_eq_true_iff, ← mid_iff, ← mid_iff]
  constructor
  · rintro ⟨h1, h2, h3, h4, h5⟩
    exact ⟨h1, ⟨h2, h3⟩, h4, h5⟩
  · rintro ⟨h1, ⟨h2, h3⟩, h4, h5⟩
    exact ⟨h1, h2, h3, h4, h5⟩
theorem leftOf_rot (a b c : Pt) : leftOf a b c = (a.x - c.x) * (b.y - c.y) - (a.y - c.y) * (b.x - c.x) := by
  unfold leftOf cross Pt.sub
  grind
theorem leftOf_swap (a b c : Pt) : leftOf b a c = -leftOf a b c := by
  unfold leftOf cross Pt.sub
  grind
theorem leftOf_at (c d a : Pt) : leftOf c d a = (d.x - c.x) * (a.y - c.y) - (d.y - c.y) * (a.x - c.x) := rfl
theorem ends_apart {a b c : Pt} (d : Pt) (h : between a b c = true) : leftOf c d a * leftOf c d b ≤ 0 := by
  obtain ⟨h0, h1, h2⟩ := (between_iff a b c).mp h
  rw [leftOf_rot] at h0
  rw [leftOf_at, leftOf_at]
  exact form_np (by omega) h1 h2
theorem between_of {a b c d : Pt} (h0 : leftOf a b c = 0) (hd : leftOf a b d ≠ 0) (h : leftOf c d a * leftOf c d b ≤ 0) : between a b c = true := by
  have hk : (a.x - c.x) * (b.y - c.y) = (a.y - c.y) * (b.x - c.x) := by
    rw [leftOf_rot] at h0
    omega
  have hz : (d.x - c.x) * ((b.y - c.y) - (a.y - c.y)) - (d.y - c.y) * ((b.x - c.x) - (a.x - c.x)) ≠ 0 := by
    intro z
    apply hd
    have : leftOf a b d = leftOf a b c - ((d.x - c.x) * ((b.y - c.y) - (a.y - c.y)) - (d.y - c.y) * ((b.x - c.x) - (a.x - c.x))) := by
      unfold leftOf cross Pt.sub
      grind
    rw [this, h0, z]
    rfl
  rw [leftOf_at, leftOf_at] at h
  refine (between_iff a b c).mpr ⟨h0, np_of_form hk h hz, ?_⟩
  refine np_of_form (x1 := a.y - c.y) (x2 := a.x - c.x) (y1 := b.y - c.y) (y2 := b.x - c.x) (z1 := d.y - c.y) (z2 := d.x - c.x) (by rw [hk]) ?_ ?_
  · have e : ((d.y - c.y) * (a.x - c.x) - (d.x - c.x) * (a.y - c.y)) * ((d.y - c.y) * (b.x - c.x) - (d.x - c.x) * (b.y - c.y)) = ((d.x - c.x) * (a.y - c.y) - (d.y - c.y) * (a.x - c.x)) * ((d.x - c.x) * (b.y - c.y) - (d.y - c.y) * (b.x - c.x)) := by grind
    rw [e]
    exact h
  · intro z
    exact hz (by grind)
def reachB (a b c d : Int) : Bool := decide (min a b ≤ max c d) && decide (min c d ≤ max a b)
theorem reachB_iff (a b c d : Int) : reachB a b c d = true ↔ min a b ≤ max c d ∧ min c d ≤ max a b := by
  unfold reachB
  rw [Bool.and_eq_true, decide_eq_true_iff, decide_eq_true_iff]
theorem weigh {w1 w2 w3 w4 a b c d : Int} (h1 : 0 < w1) (h2 : 0 < w2) (h3 : 0 < w3) (h4 : 0 < w4) (hs : w1 + w2 = w3 + w4) (he : w1 * a + w2 * b = w3 * c + w4 * d) : min a b ≤ max c d := by
  by_cases h : min a b ≤ max c d
  · exact h
  exfalso
  obtain ⟨M, hM⟩ : ∃ M, max c d = M := ⟨_, rfl⟩
  have a1 := Int.mul_nonneg (Int.le_of_lt h1) (show 0 ≤ a - (M + 1) by omega)
  have a2 := Int.mul_nonneg (Int.le_of_lt h2) (show 0 ≤ b - (M + 1) by omega)
  have a3 := Int.mul_nonneg (Int.le_of_lt h3) (show 0 ≤ M - c by omega)
  have a4 := Int.mul_nonneg (Int.le_of_lt h4) (show 0 ≤ M - d by omega)
  have e1 : w1 * (a - (M + 1)) + w2 * (b - (M + 1)) + w3 * (M - c) + w4 * (M - d) = (w1 * a + w2 * b) - (w3 * c + w4 * d) - (w1 + w2) * (M + 1) + (w3 + w4) * M := by grind
  rw [he, hs] at e1
  have e2 : (w3 + w4) * (M + 1) = (w3 + w4) * M + (w3 + w4) := by grind
  omega
theorem cross_x (a b c d : Pt) : leftOf c d b * a.x - leftOf c d a * b.x = leftOf a b c * d.x - leftOf a b d * c.x := by
  unfold leftOf cross Pt.sub
  grind
theorem cross_y (a b c d : Pt) : leftOf c d b * a.y - leftOf c d a * b.y = leftOf a b c * d.y - leftOf a b d * c.y := by
  unfold leftOf cross Pt.sub
  grind
theorem cross_s (a b c d : Pt) : leftOf c d b - leftOf c d a = leftOf a b c - leftOf a b d := by
  unfold leftOf cross Pt.sub
  grind
theorem neg_cases {x y : Int} (h : x * y < 0) : (x < 0 ∧ 0 < y) ∨ (0 < x ∧ y < 0) := by
  rcases Int.lt_trichotomy x 0 with hx | hx | hx
  · rcases Int.lt_trichotomy y 0 with hy | hy | hy
    · have := Int.mul_pos_of_neg_of_neg hx hy
      omega
    · rw [hy, Int.mul_zero] at h
      omega
    · exact .inl ⟨hx, hy⟩
  · rw [hx, Int.zero_mul] at h
    omega
  · rcases Int.lt_trichotomy y 0 with hy | hy | hy
    · exact .inr ⟨hx, hy⟩
    · rw [hy, Int.mul_zero] at h
      omega
    · have := Int.mul_pos hx hy
      omega
theorem reach_of {A B C D a b c d : Int} (hs : B - A = C - D) (he : B * a - A * b = C * d - D * c) (h1 : A * B < 0) (h2 : C * D < 0) : min a b ≤ max c d ∧ min c d ≤ max a b := by
  rcases neg_cases h1 with ⟨p, q⟩ | ⟨p, q⟩ <;> rcases neg_cases h2 with ⟨r, t⟩ | ⟨r, t⟩
  · omega
  · constructor
    · exact weigh (w1 := B) (w2 := -A) (w3 := -D) (w4 := C) (by omega) (by omega) (by omega) (by omega) (by omega) (by rw [Int.neg_mul, Int.neg_mul]; omega)
    · exact weigh (w1 := -D) (w2 := C) (w3 := B) (w4 := -A) (by omega) (by omega) (by omega) (by omega) (by omega) (by rw [Int.neg_mul, Int.neg_mul]; omega)
  · constructor
    · exact weigh (w1 := -B) (w2 := A) (w3 := D) (w4 := -C) (by omega) (by omega) (by omega) (by omega) (by omega) (by rw [Int.neg_mul, Int.neg_mul]; omega)
    · exact weigh (w1 := D) (w2 := -C) (w3 := -B) (w4 := A) (by omega) (by omega) (by omega) (by omega) (by omega) (by rw [Int.neg_mul, Int.neg_mul]; omega)
  · omega
theorem sides_iff (p q c d : Pt) : (side p q c != side p q d ∧ side p q c != 0 ∧ side p q d != 0) ↔ leftOf p q c * leftOf p q d < 0 := by
  unfold side
  generalize leftOf p q c = x
  generalize leftOf p q d = y
  constructor
  · intro h
    rcases Int.lt_trichotomy x 0 with hx | hx | hx
    · rcases Int.lt_trichotomy y 0 with hy | hy | hy
      · simp [hx, hy, show ¬ 0 < x by omega, show ¬ 0 < y by omega] at h
      · simp [hy] at h
      · exact Int.mul_neg_of_neg_of_pos hx hy
    · simp [hx] at h
    · rcases Int.lt_trichotomy y 0 with hy | hy | hy
      · exact Int.mul_neg_of_pos_of_neg hx hy
      · simp [hy] at h
      · simp [hx, hy] at h
  · intro h
    rcases neg_cases h with ⟨a, b⟩ | ⟨a, b⟩
    · simp [a, b, show ¬ 0 < x by omega]
    · simp [a, b, show ¬ 0 < y by omega]
theorem mid_y {x1 x2 y1 y2 : Int} (hk : x1 * y2 = x2 * y1) (hu : y1 - x1 ≠ 0) (h : x1 * y1 ≤ 0) : x2 * y2 ≤ 0 := by
  by_cases h0 : x1 * y1 = 0
  · rcases Int.mul_eq_zero.mp h0 with z | z
    · rw [z, Int.zero_mul] at hk
      have : x2 = 0 := (Int.mul_eq_zero.mp hk.symm).resolve_right (by omega)
      rw [this, Int.zero_mul]
      exact Int.le_refl _
    · rw [z, Int.mul_zero] at hk
      have : y2 = 0 := (Int.mul_eq_zero.mp hk).resolve_left (by omega)
      rw [this, Int.mul_zero]
      exact Int.le_refl _
  · have e : (x1 * y1) * (x2 * y2) = (x1 * y2) * (x1 * y2) := by grind
    exact np_of_neg_mul (k := x1 * y1) (by omega) (by rw [e]; exact sq_nonneg _)
theorem between_x {a b c : Pt} (h0 : leftOf a b c = 0) (hu : b.x - a.x ≠ 0) (h : min a.x b.x ≤ c.x ∧ c.x ≤ max a.x b.x) : between a b c = true := by
  have hx := (mid_iff _ _ _).mp h
  refine (between_iff a b c).mpr ⟨h0, hx, mid_y (x1 := a.x - c.x) (y1 := b.x - c.x) ?_ (by omega) hx⟩
  rw [leftOf_rot] at h0
  omega
theorem between_v {a b c : Pt} (h0 : leftOf a b c = 0) (h1 : c.x = a.x) (h : min a.y b.y ≤ c.y ∧ c.y ≤ max a.y b.y) : between a b c = true := by
  refine (between_iff a b c).mpr ⟨h0, ?_, (mid_iff _ _ _).mp h⟩
  rw [h1, Int.sub_self, Int.zero_mul]
  exact Int.le_refl _
def meets (a b c d : Pt) : Bool := reachB a.x b.x c.x d.x && (reachB a.y b.y c.y d.y && (decide (leftOf c d a * leftOf c d b ≤ 0) && decide (leftOf a b c * leftOf a b d ≤ 0)))
theorem meet_iff (a b c d : Pt) : meet a b c d = true ↔ between a b c = true ∨ between a b d = true ∨ between c d a = true ∨ between c d b = true ∨ (leftOf a b c * leftOf a b d < 0 ∧ leftOf c d a * leftOf c d b < 0) := by
  unfold meet
  rw [← sides_iff, ← sides_iff]
  simp only [Bool.or_eq_true, Bool.and_eq_true]
  constructor
  · rintro (h | h | h | h | ⟨h1, h2, h3, h4, h5, h6⟩)
    · exact .inl h
    · exact .inr (.inl h)
    · exact .inr (.inr (.inl h))
    · exact .inr (.inr (.inr (.inl h)))
    · exact .inr (.inr (.inr (.inr ⟨⟨h1, h2, h3⟩, h4, h5, h6⟩)))
  · rintro (h | h | h | h | ⟨⟨h1, h2, h3⟩, h4, h5, h6⟩)
    · exact .inl h
    · exact .inr (.inl h)
    · exact .inr (.inr (.inl h))
    · exact .inr (.inr (.inr (.inl h)))
    · exact .inr (.inr (.inr (.inr ⟨h1, h2, h3, h4, h5, h6⟩)))
theorem meets_iff (a b c d : Pt) : meets a b c d = true ↔ (min a.x b.x ≤ max c.x d.x ∧ min c.x d.x ≤ max a.x b.x) ∧ (min a.y b.y ≤ max c.y d.y ∧ min c.y d.y ≤ max a.y b.y) ∧ leftOf c d a * leftOf c d b ≤ 0 ∧ leftOf a b c * leftOf a b d ≤ 0 := by
  unfold meets
  rw [Bool.and_eq_true, Bool.and_eq_true, Bool.and_eq_true, reachB_iff, reachB_iff, decide_eq_true_iff, decide_eq_true_iff]
theorem between_box {a b c : Pt} (h : between a b c = true) : (min a.x b.x ≤ c.x ∧ c.x ≤ max a.x b.x) ∧ (min a.y b.y ≤ c.y ∧ c.y ≤ max a.y b.y) := by
  obtain ⟨_, h1, h2⟩ := (between_iff a b c).mp h
  exact ⟨(mid_iff _ _ _).mpr h1, (mid_iff _ _ _).mpr h2⟩
theorem sub_ne {a b : Pt} (h : a ≠ b) : a.x ≠ b.x ∨ a.y ≠ b.y := by
  by_cases hx : a.x = b.x
  · refine .inr fun hy => h ?_
    cases a
    cases b
    simp only [Pt.mk.injEq]
    exact ⟨hx, hy⟩
  · exact .inl hx
theorem on_line {a b c d : Pt} (hab : a ≠ b) (hcd : c ≠ d) (hC : leftOf a b c = 0) (hD : leftOf a b d = 0) (hA : leftOf c d a = 0) (hB : leftOf c d b = 0) (hx : min a.x b.x ≤ max c.x d.x ∧ min c.x d.x ≤ max a.x b.x) (hy : min a.y b.y ≤ max c.y d.y ∧ min c.y d.y ≤ max a.y b.y) :
    between a b c = true ∨ between a b d = true ∨ between c d a = true ∨ between c d b = true := by
  have hC' : (b.x - a.x) * (c.y - a.y) - (b.y - a.y) * (c.x - a.x) = 0 := hC
  have hD' : (b.x - a.x) * (d.y - a.y) - (b.y - a.y) * (d.x - a.x) = 0 := hD
  by_cases hu : b.x - a.x = 0
  · rw [hu, Int.zero_mul] at hC' hD'
    have hv : b.y - a.y ≠ 0 := by
      rcases sub_ne hab with h | h <;> omega
    have hc : c.x - a.x = 0 := (Int.mul_eq_zero.mp (show (b.y - a.y) * (c.x - a.x) = 0 by omega)).resolve_left hv
    have hd : d.x - a.x = 0 := (Int.mul_eq_zero.mp (show (b.y - a.y) * (d.x - a.x) = 0 by omega)).resolve_left hv
    by_cases q1 : min a.y b.y ≤ c.y ∧ c.y ≤ max a.y b.y
    · exact .inl (between_v hC (by omega) q1)
    by_cases q2 : min a.y b.y ≤ d.y ∧ d.y ≤ max a.y b.y
    · exact .inr (.inl (between_v hD (by omega) q2))
    by_cases q3 : min c.y d.y ≤ a.y ∧ a.y ≤ max c.y d.y
    · exact .inr (.inr (.inl (between_v hA (by omega) q3)))
    · exact .inr (.inr (.inr (between_v hB (by omega) (by omega))))
  · have hcd' : d.x - c.x ≠ 0 := by
      intro z
      have e : (b.x - a.x) * (c.y - d.y) = 0 := by
        have e1 : (b.x - a.x) * (c.y - d.y) = ((b.x - a.x) * (c.y - a.y) - (b.y - a.y) * (c.x - a.x)) - ((b.x - a.x) * (d.y - a.y) - (b.y - a.y) * (d.x - a.x)) + (b.y - a.y) * (c.x - d.x) := by grind
        rw [e1, hC', hD', show c.x - d.x = 0 by omega, Int.mul_zero]
        rfl
      have := (Int.mul_eq_zero.mp e).resolve_left hu
      rcases sub_ne hcd with h | h <;> omega
    by_cases q1 : min a.x b.x ≤ c.x ∧ c.x ≤ max a.x b.x
    · exact .inl (between_x hC hu q1)
    by_cases q2 : min a.x b.x ≤ d.x ∧ d.x ≤ max a.x b.x
    · exact .inr (.inl (between_x hD hu q2))
    by_cases q3 : min c.x d.x ≤ a.x ∧ a.x ≤ max c.x d.x
    · exact .inr (.inr (.inl (between_x hA hcd' q3)))
    · exact .inr (.inr (.inr (between_x hB hcd' (by omega))))
theorem np_split {x y : Int} (h : x * y ≤ 0) : x * y < 0 ∨ x = 0 ∨ y = 0 := by
  by_cases h0 : x * y = 0
  · exact .inr (Int.mul_eq_zero.mp h0)
  · exact .inl (by omega)
theorem meets_eq {a b c d : Pt} (hab : a ≠ b) (hcd : c ≠ d) : meets a b c d = meet a b c d := by
  rw [Bool.eq_iff_iff, meets_iff, meet_iff]
  constructor
  · rintro ⟨hx, hy, hAB, hCD⟩
    have hs := cross_s a b c d
    by_cases hC : leftOf a b c = 0
    · by_cases hD : leftOf a b d = 0
      · have e : leftOf c d b = leftOf c d a := by omega
        rw [e] at hAB
        have hA : leftOf c d a = 0 := by
          rcases np_split hAB with h | h | h
          · have := sq_nonneg (leftOf c d a)
            omega
          · exact h
          · exact h
        rcases on_line hab hcd hC hD hA (by omega) hx hy with h | h | h | h
        · exact .inl h
        · exact .inr (.inl h)
        · exact .inr (.inr (.inl h))
        · exact .inr (.inr (.inr (.inl h)))
      · exact .inl (between_of hC hD hAB)
    · by_cases hD : leftOf a b d = 0
      · refine .inr (.inl (between_of (d := c) hD hC ?_))
        rw [leftOf_swap c d, leftOf_swap c d, Int.neg_mul_neg]
        exact hAB
      · by_cases hA : leftOf c d a = 0
        · by_cases hB : leftOf c d b = 0
          · exfalso
            have e : leftOf a b d = leftOf a b c := by omega
            rw [e] at hCD
            rcases np_split hCD with h | h | h
            · have := sq_nonneg (leftOf a b c)
              omega
            · exact hC h
            · exact hC h
          · exact .inr (.inr (.inl (between_of hA hB hCD)))
        · by_cases hB : leftOf c d b = 0
          · refine .inr (.inr (.inr (.inl (between_of (d := a) hB hA ?_))))
            rw [leftOf_swap a b, leftOf_swap a b, Int.neg_mul_neg]
            exact hCD
          · refine .inr (.inr (.inr (.inr ⟨?_, ?_⟩)))
            · rcases np_split hCD with h | h | h
              · exact h
              · exact absurd h hC
              · exact absurd h hD
            · rcases np_split hAB with h | h | h
              · exact h
              · exact absurd h hA
              · exact absurd h hB
  · rintro (h | h | h | h | ⟨h1, h2⟩)
    · obtain ⟨b1, b2⟩ := between_box h
      refine ⟨by omega, by omega, ends_apart d h, ?_⟩
      rw [((between_iff a b c).mp h).1, Int.zero_mul]
      exact Int.le_refl _
    · obtain ⟨b1, b2⟩ := between_box h
      refine ⟨by omega, by omega, ?_, ?_⟩
      · have := ends_apart c h
        rw [leftOf_swap c d, leftOf_swap c d, Int.neg_mul_neg] at this
        exact this
      · rw [((between_iff a b d).mp h).1, Int.mul_zero]
        exact Int.le_refl _
    · obtain ⟨b1, b2⟩ := between_box h
      refine ⟨by omega, by omega, ?_, ends_apart b h⟩
      rw [((between_iff c d a).mp h).1, Int.zero_mul]
      exact Int.le_refl _
    · obtain ⟨b1, b2⟩ := between_box h
      refine ⟨by omega, by omega, ?_, ?_⟩
      · rw [((between_iff c d b).mp h).1, Int.mul_zero]
        exact Int.le_refl _
      · have := ends_apart a h
        rw [leftOf_swap a b, leftOf_swap a b, Int.neg_mul_neg] at this
        exact this
    · have hs := cross_s a b c d
      exact ⟨reach_of hs (cross_x a b c d) h2 h1, reach_of hs (cross_y a b c d) h2 h1, by omega, by omega⟩
end Bl
end
section
set_option maxHeartbeats 2000000
namespace Bl
open PySem PySem.Spec PyProof.Rows L2
theorem sub_small {p q : Rg.Pt} (a : p.ok = true) (b : q.ok = true) : PtSm (p.sub q) := by
  have h1 := ok_small a
  have h2 := ok_small b
  refine ⟨⟨?_, ?_⟩, ?_, ?_⟩
  · show -(2 ^ 40) ≤ p.x - q.x; omega
  · show p.x - q.x ≤ 2 ^ 40; omega
  · show -(2 ^ 40) ≤ p.y - q.y; omega
  · show p.y - q.y ≤ 2 ^ 40; omega
theorem prod_bound {x y : Int} (h1 : -2097152 ≤ x) (h2 : x ≤ 2097152) (h3 : -2097152 ≤ y) (h4 : y ≤ 2097152) : -4398046511104 ≤ x * y ∧ x * y ≤ 4398046511104 := by
  have h : (x * y).natAbs ≤ 2097152 * 2097152 := by
    rw [Int.natAbs_mul]
    exact Nat.mul_le_mul (by omega) (by omega)
  omega
theorem cross_bound {p q r t : Rg.Pt} (a : p.ok = true) (b : q.ok = true) (c : r.ok = true) (d : t.ok = true) : -8796093022208 ≤ Rg.cross (p.sub q) (r.sub t) ∧ Rg.cross (p.sub q) (r.sub t) ≤ 8796093022208 := by
  have h1 := ok_small a
  have h2 := ok_small b
  have h3 := ok_small c
  have h4 := ok_small d
  have e1 := prod_bound (x := p.x - q.x) (y := r.y - t.y) (by omega) (by omega) (by omega) (by omega)
  have e2 := prod_bound (x := p.y - q.y) (y := r.x - t.x) (by omega) (by omega) (by omega) (by omega)
  show -8796093022208 ≤ (p.x - q.x) * (r.y - t.y) - (p.y - q.y) * (r.x - t.x) ∧ (p.x - q.x) * (r.y - t.y) - (p.y - q.y) * (r.x - t.x) ≤ 8796093022208
  omega
theorem dot_bound {p q r t : Rg.Pt} (a : p.ok = true) (b : q.ok = true) (c : r.ok = true) (d : t.ok = true) : -8796093022208 ≤ Rg.dot (p.sub q) (r.sub t) ∧ Rg.dot (p.sub q) (r.sub t) ≤ 8796093022208 := by
  have h1 := ok_small a
  have h2 := ok_small b
  have h3 := ok_small c
  have h4 := ok_small d
  have e1 := prod_bound (x := p.x - q.x) (y := r.x - t.x) (by omega) (by omega) (by omega) (by omega)
  have e2 := prod_bound (x := p.y - q.y) (y := r.y - t.y) (by omega) (by omega) (by omega) (by omega)
  show -8796093022208 ≤ (p.x - q.x) * (r.x - t.x) + (p.y - q.y) * (r.y - t.y) ∧ (p.x - q.x) * (r.x - t.x) + (p.y - q.y) * (r.y - t.y) ≤ 8796093022208
  omega
theorem left_bound {p q c : Rg.Pt} (a : p.ok = true) (b : q.ok = true) (d : c.ok = true) : -8796093022208 ≤ Rg.leftOf p q c ∧ Rg.leftOf p q c ≤ 8796093022208 := cross_bound b a d a
theorem mul64 {z : Int} (h : -8796093022208 ≤ z ∧ z ≤ 8796093022208) : -(2 ^ 64) < z ∧ z < 2 ^ 64 := ⟨Int.lt_of_lt_of_le (by decide) h.1, Int.lt_of_le_of_lt h.2 (by decide)⟩
theorem op_fdivB {X : Cx} : OpR X (binaryOp .FloorDiv) (rI (fun _ j => 0 < j ∧ j < 2 ^ 64) fun i j => .int (i / j)) := opI fun i j _ _ _ _ _ hc q => by
  have h0 : 0 < j := hc.1
  have h1 : j < 2 ^ 64 := hc.2
  refine floordiv_int (by omega) (by rw [Int.fdiv_eq_ediv_of_nonneg i (by omega)]; exact q) (.inl (PyProof.noPylong_of_log2 ?_))
  have h2 : j.natAbs.log2 < 64 := (Nat.log2_lt (by omega)).mpr (by omega)
  omega
section
variable {P : Program} {w : World} {K : PySem.W.Frag} {mg : Str → Option Value} {base : Heap}
def spSide : Sp := fun vs H Q _ => ∃ (a b e : Addr) (c p q : Rg.Pt), vs = [.ref a, .ref b, .ref e] ∧ PtAt H c a ∧ PtAt H p b ∧ PtAt H q e ∧ p.ok = true ∧ q.ok = true ∧ ∀ H', Same H H' → Q (.int (Rg.leftOf p q c)) H'
theorem sc_side : FnScope ["place", "p", "q"] ["place", "p", "q"] (defScope s_side) := ⟨rfl, rfl, rfl, by decide +kernel, rfl, by decide +kernel, by decide +kernel⟩
theorem ok_side (F : FunG K mg "side" s_side ["place", "p", "q"]) (OC : Ok P w K mg base 1 "cross" ["one", "other"] spCross) (OM : Ok P w K mg base 1 "minus" ["one", "other"] spMinus) : Ok P w K mg base 2 "side" ["place", "p", "q"] spSide := by
  refine F.ok sc_side (fun vs H Q E h => ?_) (fun f cdv A outer s H vs Q E hr h => ?_)
  · obtain ⟨a, b, e, c, p, q, rfl, _⟩ := h
    rfl
  · obtain ⟨a, b, e, c, p, q, rfl, hc, hp, hq, op, oq, k⟩ := h
    refine ⟨_, pss_one (ps_ret (pe_fn OC hr (pa_cons (pe_fn OM hr (pa_cons (pv 2) (pa_cons (pv 1) pa_nil))) (pa_cons (pe_fn OM hr (pa_cons (pv 0) (pa_cons (pv 1) pa_nil))) pa_nil)))), ?_⟩
    exact ⟨_, rfl, _, rfl, e, b, q, p, rfl, hq, hp, fun H1 x s1 hx => ⟨_, rfl, _, rfl, a, b, c, p, rfl, hc.same s1, hp.same s1, fun H2 y s2 hy => ⟨x, y, _, _, rfl, hx.same s2, hy, sub_small oq op, k _ (s1.trans s2)⟩⟩⟩
def spOver : Sp := fun vs H Q _ => ∃ (a b e f : Addr) (c d p q : Rg.Pt), vs = [.ref a, .ref b, .ref e, .ref f] ∧ PtAt H c a ∧ PtAt H d b ∧ PtAt H p e ∧ PtAt H q f ∧ c.ok = true ∧ d.ok = true ∧ p.ok = true ∧ q.ok = true ∧ ∀ H', Same H H' → Q (.bl (goesOver p q c d)) H'
theorem sc_goes : FnScope ["c", "d", "p", "q"] ["c", "d", "p", "q"] (defScope s_goes_over) := ⟨rfl, rfl, rfl, by decide +kernel, rfl, by decide +kernel, by decide +kernel⟩
theorem ok_goes_over (F : FunG K mg "goes_over" s_goes_over ["c", "d", "p", "q"]) (OS : Ok P w K mg base 2 "side" ["place", "p", "q"] spSide) : Ok P w K mg base 3 "goes_over" ["c", "d", "p", "q"] spOver := by
  refine F.ok sc_goes (fun vs H Q E h => ?_) (fun f cdv A outer s H vs Q E hr h => ?_)
  · obtain ⟨a, b, e, f, c, d, p, q, rfl, _⟩ := h
    rfl
  · obtain ⟨a, b, e, g, c, d, p, q, rfl, hc, hd, hp, hq, oc, od, op, oq, k⟩ := h
    refine ⟨_, pss_cons (ps_if (pw_or (pt_cmpR op_gt (pe_fn OS hr (pa_cons (pv 0) (pa_cons (pv 2) (pa_cons (pv 3) pa_nil)))) pe_int (nomark _)) (pw_or1 (pt_cmpR op_le (pe_fn OS hr (pa_cons (pv 1) (pa_cons (pv 2) (pa_cons (pv 3) pa_nil)))) pe_int (nomark _)))).pt (pss_one (ps_ret pe_bl)) pss_nil)
      (pss_one (ps_ret (pe_and (pe_cmpR op_ge (pe_fn OS hr (pa_cons (pv 2) (pa_cons (pv 0) (pa_cons (pv 1) pa_nil)))) pe_int (nomark _)) (pe_one (pe_cmpR op_le (pe_fn OS hr (pa_cons (pv 3) (pa_cons (pv 0) (pa_cons (pv 1) pa_nil)))) pe_int (nomark _)))))), ?_⟩
    unfold goesOver at k
    refine ⟨_, rfl, _, rfl, _, rfl, a, e, g, c, p, q, rfl, hc, hp, hq, op, oq, fun H1 s1 => ⟨_, _, rfl, rfl, _, rfl, ?_⟩⟩
    by_cases h1 : 0 < Rg.leftOf p q c
    · rw [decide_eq_true h1]
      have kk := k _ s1
      rw [decide_eq_false (show ¬ Rg.leftOf p q c ≤ 0 by omega), Bool.false_and] at kk
      exact iteT (iteT kk)
    rw [decide_eq_false h1]
    rw [decide_eq_true (show Rg.leftOf p q c ≤ 0 by omega), Bool.true_and] at k
    refine iteF ⟨_, rfl, _, rfl, _, rfl, b, e, g, d, p, q, rfl, hd.same s1, hp.same s1, hq.same s1, op, oq, fun H2 s2 => ⟨_, _, rfl, rfl, _, rfl, ?_⟩⟩
    have s12 := s1.trans s2
    by_cases h2 : Rg.leftOf p q d ≤ 0
    · rw [decide_eq_true h2]
      have kk := k _ s12
      rw [decide_eq_false (show ¬ 0 < Rg.leftOf p q d by omega), Bool.false_and] at kk
      exact iteT kk
    rw [decide_eq_false h2]
    rw [decide_eq_true (show 0 < Rg.leftOf p q d by omega), Bool.true_and] at k
    refine iteF ⟨_, rfl, _, rfl, _, rfl, e, a, b, p, c, d, rfl, hp.same s12, hc.same s12, hd.same s12, oc, od, fun H3 s3 => ⟨_, _, rfl, rfl, _, rfl, ?_⟩⟩
    have s13 := s12.trans s3
    by_cases h3 : 0 ≤ Rg.leftOf c d p
    · rw [decide_eq_true h3]
      rw [decide_eq_true h3, Bool.true_and] at k
      exact iteT ⟨_, rfl, _, rfl, _, rfl, g, a, b, q, c, d, rfl, hq.same s13, hc.same s13, hd.same s13, oc, od, fun H4 s4 => ⟨_, _, rfl, rfl, k _ (s13.trans s4)⟩⟩
    · rw [decide_eq_false h3]
      have kk := k _ s13
      rw [decide_eq_false h3, Bool.false_and] at kk
      exact iteF kk
def spLowest : Sp := fun vs H Q _ => ∃ (n d : Nat), vs = [.int (n : Int), .int (d : Int)] ∧ 0 < d ∧ n ≤ d ∧ d < 2 ^ 60 ∧ ∀ (H' : Hp) (r : Addr), Same H H' → H r = none → IntsAt H' [((n / Nat.gcd n d : Nat) : Int), ((d / Nat.gcd n d : Nat) : Int)] r → Q (.ref r) H'
theorem sc_lowest : FnScope ["numerator", "denominator", "common", "rest", "left_over"] ["numerator", "denominator"] (defScope s_lowest) := ⟨rfl, rfl, rfl, by decide +kernel, rfl, by decide +kernel, by decide +kernel⟩
def lowMu (σ : L2.St) : Nat := match σ with
  | [_, _, _, some (.int r), _] => r.toNat
  | _ => 0
theorem ok_lowest (F : FunG K mg "lowest" s_lowest ["numerator", "denominator"]) : Ok P w K mg base 1 "lowest" ["numerator", "denominator"] spLowest := by
  refine F.ok sc_lowest (fun vs H Q E h => ?_) (fun f cdv A outer s H vs Q E hr h => ?_)
  · obtain ⟨n, d, rfl, _⟩ := h
    rfl
  · obtain ⟨n, d, rfl, hd, hn, hb, k⟩ := h
    refine ⟨_, pss_cons (ps_set (i := 2) sc_lowest.nd rfl (Or.inl rfl) (pv 1)) (pss_cons (ps_set (i := 3) sc_lowest.nd rfl (Or.inl rfl) (pv 0))
      (pss_cons (ps_while PassesOwn.never (pt_cmpR op_gt (pv 3) pe_int (nomark _))
        (pss_cons (ps_set (i := 4) sc_lowest.nd rfl (Or.inl rfl) (pe_op op_mod (pv 2) (pv 3)))
        (pss_cons (ps_set (i := 2) sc_lowest.nd rfl (Or.inl rfl) (pv 3))
        (pss_one (ps_set (i := 3) sc_lowest.nd rfl (Or.inl rfl) (pv 4))))))
      (pss_one (ps_ret (pe_lst (pa_cons (pe_op op_fdivB (pv 0) (pv 2)) (pa_cons (pe_op op_fdivB (pv 1) (pv 2)) pa_nil))))))), ?_⟩
    refine ⟨_, rfl, _, rfl, while_by (fun σ H' => H' = H ∧ ∃ (c r : Nat) (v : Option V), σ = [some (.int (n : Int)), some (.int (d : Int)), some (.int (c : Int)), some (.int (r : Int)), v] ∧ 0 < c ∧ c ≤ d ∧ r ≤ d ∧ Nat.gcd r c = Nat.gcd n d) (fun σ _ => lowMu σ) ⟨rfl, d, n, none, rfl, hd, Nat.le_refl _, hn, rfl⟩ ?_ ?_⟩
    · rintro σ H' ⟨rfl, c, r, v, rfl, hc, hcd, hrd, hg⟩
      refine ⟨_, rfl, _, _, rfl, rfl, _, rfl, ?_⟩
      by_cases h0 : 0 < r
      · rw [decide_eq_true (show (0 : Int) < (r : Int) by omega)]
        have hlt : c % r < r := Nat.mod_lt _ h0
        refine iteT ⟨_, rfl, _, rfl, _, _, rfl, rfl, (by show (0 : Int) < (r : Int); omega), _, rfl, _, rfl, ⟨rfl, r, c % r, _, rfl, h0, hrd, by omega, ?_⟩, ?_⟩
        · rw [← hg, Nat.gcd_rec r c]
        · show ((c : Int) % (r : Int)).toNat < ((r : Int)).toNat
          omega
      · rw [decide_eq_false (show ¬ (0 : Int) < (r : Int) by omega)]
        have r0 : r = 0 := by omega
        subst r0
        rw [Nat.gcd_zero_left] at hg
        have hbd : (0 : Int) < (c : Int) ∧ (c : Int) < 2 ^ 64 := by omega
        refine iteF ⟨_, rfl, _, rfl, _, _, rfl, rfl, hbd, _, rfl, _, rfl, _, _, rfl, rfl, hbd, (by show 2 ≤ sizeLine; decide), fun q hq => ?_⟩
        refine k _ q (Same.new hq) hq ?_
        show upd _ _ _ _ = _
        rw [upd_same, ← hg]
        rfl
    · rintro σ H' Q1 Q2 hQ ⟨x, h1, i, j, h2, h3, b, h4, h5⟩
      exact ⟨x, h1, i, j, h2, h3, b, h4, hQ _ _ h5⟩
end
end Bl
end
section
set_option maxHeartbeats 2000000
namespace Bl
open PySem PySem.Spec PyProof.Rows L2
section
variable {P : Program} {w : World} {K : PySem.W.Frag} {mg : Str → Option Value} {base : Heap}
def pairI (x : Nat × Nat) : List Int := [(x.1 : Int), (x.2 : Int)]
def spWhen : Sp := fun vs H Q _ => ∃ (a b e f : Addr) (c d p q : Rg.Pt), vs = [.ref a, .ref b, .ref e, .ref f] ∧ PtAt H c a ∧ PtAt H d b ∧ PtAt H p e ∧ PtAt H q f ∧ c.ok = true ∧ d.ok = true ∧ p.ok = true ∧ q.ok = true ∧ goesOver p q c d = true ∧
  ∀ (H' : Hp) (r : Addr), Same H H' → H r = none → IntsAt H' (pairI (whenOver p q c d)) r → Q (.ref r) H'
theorem sc_when : FnScope ["c", "d", "p", "q", "behind"] ["c", "d", "p", "q"] (defScope s_when_over) := ⟨rfl, rfl, rfl, by decide +kernel, rfl, by decide +kernel, by decide +kernel⟩
theorem ok_when_over (F : FunG K mg "when_over" s_when_over ["c", "d", "p", "q"]) (OS : Ok P w K mg base 2 "side" ["place", "p", "q"] spSide) (OL : Ok P w K mg base 1 "lowest" ["numerator", "denominator"] spLowest) : Ok P w K mg base 3 "when_over" ["c", "d", "p", "q"] spWhen := by
  refine F.ok sc_when (fun vs H Q E h => ?_) (fun f cdv A outer s H vs Q E hr h => ?_)
  · obtain ⟨a, b, e, f, c, d, p, q, rfl, _⟩ := h
    rfl
  · obtain ⟨a, b, e, g, c, d, p, q, rfl, hc, hd, hp, hq, oc, od, op, oq, hg, k⟩ := h
    have h1 := hr.mono (show 1 ≤ 2 by decide)
    refine ⟨_, pss_cons (ps_set (i := 4) sc_when.nd rfl (Or.inl rfl) (pe_un un_neg (pe_fn OS hr (pa_cons (pv 0) (pa_cons (pv 2) (pa_cons (pv 3) pa_nil))))))
      (pss_one (ps_ret (pe_fn OL h1 (pa_cons (pv 4) (pa_cons (pe_op op_add (pv 4) (pe_fn OS hr (pa_cons (pv 1) (pa_cons (pv 2) (pa_cons (pv 3) pa_nil))))) pa_nil))))), ?_⟩
    unfold goesOver at hg
    rw [Bool.and_eq_true, Bool.and_eq_true, decide_eq_true_iff, decide_eq_true_iff] at hg
    obtain ⟨g1, g2, _⟩ := hg
    have b1 := left_bound op oq oc
    have b2 := left_bound op oq od
    refine ⟨_, rfl, _, rfl, _, rfl, a, e, g, c, p, q, rfl, hc, hp, hq, op, oq, fun H1 s1 => ⟨_, rfl, _, rfl, _, rfl, _, rfl, _, rfl, _, rfl, b, e, g, d, p, q, rfl, hd.same s1, hp.same s1, hq.same s1, op, oq, fun H2 s2 => ⟨_, _, rfl, rfl, ?_⟩⟩⟩
    have s12 := s1.trans s2
    obtain ⟨n, hn⟩ : ∃ n : Nat, -Rg.leftOf p q c = (n : Int) := ⟨(-Rg.leftOf p q c).toNat, by omega⟩
    obtain ⟨m, hm⟩ : ∃ m : Nat, Rg.leftOf p q d - Rg.leftOf p q c = (m : Int) := ⟨(Rg.leftOf p q d - Rg.leftOf p q c).toNat, by omega⟩
    have ew : whenOver p q c d = (n / Nat.gcd n m, m / Nat.gcd n m) := by
      unfold whenOver
      rw [hn, hm]
      rfl
    rw [ew] at k
    refine ⟨n, m, ?_, by omega, by omega, by omega, fun H3 r s3 hr3 h3 => k _ r (s12.trans s3) (s12.free hr3) h3⟩
    show [V.int (-Rg.leftOf p q c), V.int (-Rg.leftOf p q c + Rg.leftOf p q d)] = _
    rw [← hn, ← hm, show -Rg.leftOf p q c + Rg.leftOf p q d = Rg.leftOf p q d - Rg.leftOf p q c by omega]
def spReach : Sp := fun vs H Q _ => ∃ (a b c d : Int), vs = [.int a, .int b, .int c, .int d] ∧ Q (.bl (reachB a b c d)) H
theorem sc_reach : FnScope ["a", "b", "c", "d"] ["a", "b", "c", "d"] (defScope s_reaches_meet) := ⟨rfl, rfl, rfl, by decide +kernel, rfl, by decide +kernel, by decide +kernel⟩
theorem min_py (a b : Int) : (if b < a then b else a) = min a b := by split <;> omega
theorem max_py (a b : Int) : (if b > a then b else a) = max a b := by split <;> omega
theorem ok_reaches (F : FunG K mg "reaches_meet" s_reaches_meet ["a", "b", "c", "d"]) (T : Txt mg) : Ok P w K mg base 1 "reaches_meet" ["a", "b", "c", "d"] spReach := by
  refine F.ok sc_reach (fun vs H Q E h => ?_) (fun f cdv A outer s H vs Q E hr h => ?_)
  · obtain ⟨a, b, c, d, rfl, _⟩ := h
    rfl
  · obtain ⟨a, b, c, d, rfl, k⟩ := h
    refine ⟨_, pss_one (ps_ret (pe_and (pe_cmpR op_le (pe_callB (call_min2 rfl) (by rfl) T.b_min boot_min (pa_cons (pv 0) (pa_cons (pv 1) pa_nil))) (pe_callB (call_max2 rfl) (by rfl) T.b_max boot_max (pa_cons (pv 2) (pa_cons (pv 3) pa_nil))) (nomark _))
      (pe_one (pe_cmpR op_le (pe_callB (call_min2 rfl) (by rfl) T.b_min boot_min (pa_cons (pv 2) (pa_cons (pv 3) pa_nil))) (pe_callB (call_max2 rfl) (by rfl) T.b_max boot_max (pa_cons (pv 0) (pa_cons (pv 1) pa_nil))) (nomark _))))), ?_⟩
    unfold reachB at k
    refine ⟨_, rfl, _, rfl, _, _, rfl, _, rfl, _, rfl, _, _, rfl, _, _, rfl, rfl, _, rfl, ?_⟩
    rw [min_py, max_py]
    by_cases h1 : min a b ≤ max c d
    · rw [decide_eq_true h1]
      rw [decide_eq_true h1, Bool.true_and] at k
      refine iteT ⟨_, rfl, _, rfl, _, _, rfl, _, rfl, _, rfl, _, _, rfl, _, _, rfl, rfl, ?_⟩
      rw [min_py, max_py]
      exact k
    · rw [decide_eq_false h1]
      rw [decide_eq_false h1, Bool.false_and] at k
      exact iteF k
def spMeet : Sp := fun vs H Q _ => ∃ (e f g h : Addr) (a b c d : Rg.Pt), vs = [.ref e, .ref f, .ref g, .ref h] ∧ PtAt H a e ∧ PtAt H b f ∧ PtAt H c g ∧ PtAt H d h ∧ a.ok = true ∧ b.ok = true ∧ c.ok = true ∧ d.ok = true ∧ ∀ H', Same H H' → Q (.bl (meets a b c d)) H'
theorem sc_meet : FnScope ["a", "b", "c", "d"] ["a", "b", "c", "d"] (defScope s_meet) := ⟨rfl, rfl, rfl, by decide +kernel, rfl, by decide +kernel, by decide +kernel⟩
theorem ok_meet (F : FunG K mg "meet" s_meet ["a", "b", "c", "d"]) (OR : Ok P w K mg base 1 "reaches_meet" ["a", "b", "c", "d"] spReach) (OS : Ok P w K mg base 2 "side" ["place", "p", "q"] spSide) : Ok P w K mg base 3 "meet" ["a", "b", "c", "d"] spMeet := by
  refine F.ok sc_meet (fun vs H Q E h => ?_) (fun f cdv A outer s H vs Q E hr h => ?_)
  · obtain ⟨e, f, g, h, a, b, c, d, rfl, _⟩ := h
    rfl
  · obtain ⟨e, f, g, h, a, b, c, d, rfl, ha, hb, hc, hd, oa, ob, oc, od, k⟩ := h
    have h1 := hr.mono (show 1 ≤ 2 by decide)
    refine ⟨_, pss_cons (ps_if (pw_or (pt_not (pt_val (pe_fn OR h1 (pa_cons (pe_ix ix_tup (pv 0) pe_int (fun _ _ => rfl)) (pa_cons (pe_ix ix_tup (pv 1) pe_int (fun _ _ => rfl)) (pa_cons (pe_ix ix_tup (pv 2) pe_int (fun _ _ => rfl)) (pa_cons (pe_ix ix_tup (pv 3) pe_int (fun _ _ => rfl)) pa_nil)))))))
        (pw_or1 (pt_not (pt_val (pe_fn OR h1 (pa_cons (pe_ix ix_tup (pv 0) pe_int (fun _ _ => rfl)) (pa_cons (pe_ix ix_tup (pv 1) pe_int (fun _ _ => rfl)) (pa_cons (pe_ix ix_tup (pv 2) pe_int (fun _ _ => rfl)) (pa_cons (pe_ix ix_tup (pv 3) pe_int (fun _ _ => rfl)) pa_nil))))))))).pt (pss_one (ps_ret pe_bl)) pss_nil)
      (pss_one (ps_ret (pe_and (pe_cmpR op_le (pe_op op_mul (pe_fn OS hr (pa_cons (pv 0) (pa_cons (pv 2) (pa_cons (pv 3) pa_nil)))) (pe_fn OS hr (pa_cons (pv 1) (pa_cons (pv 2) (pa_cons (pv 3) pa_nil))))) pe_int (nomark _))
        (pe_one (pe_cmpR op_le (pe_op op_mul (pe_fn OS hr (pa_cons (pv 2) (pa_cons (pv 0) (pa_cons (pv 1) pa_nil)))) (pe_fn OS hr (pa_cons (pv 3) (pa_cons (pv 0) (pa_cons (pv 1) pa_nil))))) pe_int (nomark _)))))), ?_⟩
    unfold meets at k
    refine ⟨_, rfl, e, _, _, _, rfl, rfl, SqT.of ha, rfl, _, rfl, f, _, _, _, rfl, rfl, SqT.of hb, rfl, _, rfl, g, _, _, _, rfl, rfl, SqT.of hc, rfl, _, rfl, h, _, _, _, rfl, rfl, SqT.of hd, rfl, _, _, _, _, rfl, _, rfl, ?_⟩
    by_cases hx : reachB a.x b.x c.x d.x = true
    rotate_left
    · have hx' := Bool.eq_false_iff.mpr hx
      rw [hx', Bool.false_and] at k
      rw [hx']
      exact iteT (iteT (k _ (Same.refl _)))
    rw [hx, Bool.true_and] at k
    rw [hx]
    refine iteF ⟨_, rfl, e, _, _, _, rfl, rfl, SqT.of ha, rfl, _, rfl, f, _, _, _, rfl, rfl, SqT.of hb, rfl, _, rfl, g, _, _, _, rfl, rfl, SqT.of hc, rfl, _, rfl, h, _, _, _, rfl, rfl, SqT.of hd, rfl, _, _, _, _, rfl, _, rfl, ?_⟩
    by_cases hy : reachB a.y b.y c.y d.y = true
    rotate_left
    · have hy' := Bool.eq_false_iff.mpr hy
      rw [hy', Bool.false_and] at k
      rw [hy']
      exact iteT (k _ (Same.refl _))
    rw [hy, Bool.true_and] at k
    rw [hy]
    refine iteF ⟨_, rfl, _, rfl, _, rfl, e, g, h, a, c, d, rfl, ha, hc, hd, oc, od, fun H1 s1 => ⟨_, rfl, _, rfl, _, rfl, f, g, h, b, c, d, rfl, hb.same s1, hc.same s1, hd.same s1, oc, od, fun H2 s2 => ⟨_, _, rfl, rfl, .inl (mul64 (left_bound oc od oa)), _, _, rfl, rfl, _, rfl, ?_⟩⟩⟩
    have s12 := s1.trans s2
    by_cases hAB : Rg.leftOf c d a * Rg.leftOf c d b ≤ 0
    · rw [decide_eq_true hAB]
      rw [decide_eq_true hAB, Bool.true_and] at k
      exact iteT ⟨_, rfl, _, rfl, _, rfl, g, e, f, c, a, b, rfl, hc.same s12, ha.same s12, hb.same s12, oa, ob, fun H3 s3 => ⟨_, rfl, _, rfl, _, rfl, h, e, f, d, a, b, rfl, hd.same (s12.trans s3), ha.same (s12.trans s3), hb.same (s12.trans s3), oa, ob, fun H4 s4 => ⟨_, _, rfl, rfl, .inl (mul64 (left_bound oa ob oc)), _, _, rfl, rfl, k _ (s12.trans (s3.trans s4))⟩⟩⟩
    · rw [decide_eq_false hAB]
      have kk := k _ s12
      rw [decide_eq_false hAB, Bool.false_and] at kk
      exact iteF kk
def nearB (c p q : Rg.Pt) (k : Nat) : Bool := if Rg.dot (q.sub p) (c.sub p) ≤ 0 then decide (Rg.dot (c.sub p) (c.sub p) ≤ (k : Int) * k * Rg.dot (q.sub p) (q.sub p))
  else if Rg.dot (q.sub p) (q.sub p) ≤ Rg.dot (q.sub p) (c.sub p) then decide (Rg.dot (c.sub q) (c.sub q) ≤ (k : Int) * k * Rg.dot (q.sub p) (q.sub p))
  else decide (Rg.cross (q.sub p) (c.sub p) * Rg.cross (q.sub p) (c.sub p) ≤ (k : Int) * k * Rg.dot (q.sub p) (q.sub p) * Rg.dot (q.sub p) (q.sub p))
theorem nearB_eq (h : Rg.Hull) (c : Rg.Pt) (k : Nat) : nearB c h.bow h.stern k = Rg.inZone h c k := by
  rw [Bool.eq_iff_iff, inZone_iff]
  unfold nearB
  have e : ((k * k : Nat) : Int) = (k : Int) * k := Int.natCast_mul k k
  show _ ↔ (if Rg.dot (h.stern.sub h.bow) (c.sub h.bow) ≤ 0 then _ else if Rg.dot (h.stern.sub h.bow) (h.stern.sub h.bow) ≤ Rg.dot (h.stern.sub h.bow) (c.sub h.bow) then _ else _)
  by_cases h1 : Rg.dot (h.stern.sub h.bow) (c.sub h.bow) ≤ 0
  · rw [if_pos h1, if_pos h1, decide_eq_true_iff, e]
  · rw [if_neg h1, if_neg h1]
    by_cases h2 : Rg.dot (h.stern.sub h.bow) (h.stern.sub h.bow) ≤ Rg.dot (h.stern.sub h.bow) (c.sub h.bow)
    · rw [if_pos h2, if_pos h2, decide_eq_true_iff, e]
    · rw [if_neg h2, if_neg h2, decide_eq_true_iff, e, Int.mul_comm (Rg.dot (h.stern.sub h.bow) (h.stern.sub h.bow))]
      exact Iff.rfl
def spNear : Sp := fun vs H Q _ => ∃ (a b e : Addr) (c p q : Rg.Pt) (n : Nat), vs = [.ref a, .ref b, .ref e, .int (n : Int)] ∧ PtAt H c a ∧ PtAt H p b ∧ PtAt H q e ∧ c.ok = true ∧ p.ok = true ∧ q.ok = true ∧ n ≤ 64 ∧ ∀ H', Same H H' → Q (.bl (nearB c p q n)) H'
theorem sc_near : FnScope ["place", "p", "q", "lengths", "along", "away", "length", "bound", "ahead", "beside"] ["place", "p", "q", "lengths"] (defScope s_is_near) := ⟨rfl, rfl, rfl, by decide +kernel, rfl, by decide +kernel, by decide +kernel⟩
theorem ok_near (F : FunG K mg "is_near" s_is_near ["place", "p", "q", "lengths"]) (OM : Ok P w K mg base 1 "minus" ["one", "other"] spMinus) (OQ : Ok P w K mg base 2 "square" ["vector"] spSquare) (OD : Ok P w K mg base 1 "dot" ["one", "other"] spDot) (OC : Ok P w K mg base 1 "cross" ["one", "other"] spCross) :
    Ok P w K mg base 3 "is_near" ["place", "p", "q", "lengths"] spNear := by
  refine F.ok sc_near (fun vs H Q E h => ?_) (fun f cdv A outer s H vs Q E hr h => ?_)
  · obtain ⟨a, b, e, c, p, q, n, rfl, _⟩ := h
    rfl
  · obtain ⟨a, b, e, c, p, q, n, rfl, hc, hp, hq, oc, op, oq, hn, k⟩ := h
    have h1 := hr.mono (show 1 ≤ 2 by decide)
    refine ⟨_, pss_cons (ps_set (i := 4) sc_near.nd rfl (Or.inl rfl) (pe_fn OM h1 (pa_cons (pv 2) (pa_cons (pv 1) pa_nil))))
      (pss_cons (ps_set (i := 5) sc_near.nd rfl (Or.inl rfl) (pe_fn OM h1 (pa_cons (pv 0) (pa_cons (pv 1) pa_nil))))
      (pss_cons (ps_set (i := 6) sc_near.nd rfl (Or.inl rfl) (pe_fn OQ hr (pa_cons (pv 4) pa_nil)))
      (pss_cons (ps_set (i := 7) sc_near.nd rfl (Or.inl rfl) (pe_op op_mul (pe_op op_mul (pv 3) (pv 3)) (pv 6)))
      (pss_cons (ps_set (i := 8) sc_near.nd rfl (Or.inl rfl) (pe_fn OD h1 (pa_cons (pv 4) (pa_cons (pv 5) pa_nil))))
      (pss_cons (ps_if (pt_cmpR op_le (pv 8) pe_int (nomark _)) (pss_one (ps_ret (pe_cmpR op_le (pe_fn OQ hr (pa_cons (pv 5) pa_nil)) (pv 7) (nomark _)))) pss_nil)
      (pss_cons (ps_if (pt_cmpR op_ge (pv 8) (pv 6) (nomark _)) (pss_one (ps_ret (pe_cmpR op_le (pe_fn OQ hr (pa_cons (pe_fn OM h1 (pa_cons (pv 0) (pa_cons (pv 2) pa_nil))) pa_nil)) (pv 7) (nomark _)))) pss_nil)
      (pss_cons (ps_set (i := 9) sc_near.nd rfl (Or.inl rfl) (pe_fn OC h1 (pa_cons (pv 4) (pa_cons (pv 5) pa_nil))))
      (pss_one (ps_ret (pe_cmpR op_le (pe_op op_mul (pv 9) (pv 9)) (pe_op op_mul (pv 7) (pv 6)) (nomark _))))))))))), ?_⟩
    have hn2 : -(2 ^ 64) < (n : Int) ∧ (n : Int) < 2 ^ 64 := by omega
    have hnn : -(2 ^ 64) < (n : Int) * n ∧ (n : Int) * n < 2 ^ 64 := by
      have : ((n * n : Nat) : Int) = (n : Int) * n := Int.natCast_mul n n
      have h4 : n * n ≤ 64 * 64 := Nat.mul_le_mul hn hn
      omega
    have bl := dot_bound oq op oq op
    have bc := cross_bound oq op oc op
    unfold nearB at k
    refine ⟨_, rfl, _, rfl, e, b, q, p, rfl, hq, hp, fun H1 x s1 hx => ⟨_, rfl, _, rfl, a, b, c, p, rfl, hc.same s1, hp.same s1, fun H2 y s2 hy => ?_⟩⟩
    have hx2 := hx.same s2
    have s12 := s1.trans s2
    refine ⟨_, rfl, x, _, rfl, hx2, sub_small oq op, _, rfl, _, rfl, _, _, rfl, rfl, .inl hn2, _, rfl, _, _, rfl, rfl, .inl hnn, _, rfl, _, rfl, x, y, _, _, rfl, hx2, hy, sub_small oq op, _, rfl, _, _, rfl, rfl, _, rfl, ?_⟩
    by_cases c1 : Rg.dot (q.sub p) (c.sub p) ≤ 0
    · rw [decide_eq_true c1]
      rw [if_pos c1] at k
      exact iteT ⟨_, rfl, y, _, rfl, hy, sub_small oc op, _, rfl, _, _, rfl, rfl, k _ s12⟩
    rw [decide_eq_false c1]
    rw [if_neg c1] at k
    refine iteF ⟨_, rfl, _, rfl, _, _, rfl, rfl, _, rfl, ?_⟩
    by_cases c2 : Rg.dot (q.sub p) (q.sub p) ≤ Rg.dot (q.sub p) (c.sub p)
    · rw [decide_eq_true c2]
      rw [if_pos c2] at k
      exact iteT ⟨_, rfl, _, rfl, a, e, c, q, rfl, hc.same s12, hq.same s12, fun H3 z s3 hz => ⟨z, _, rfl, hz, sub_small oc oq, _, rfl, _, _, rfl, rfl, k _ (s12.trans s3)⟩⟩
    rw [decide_eq_false c2]
    rw [if_neg c2] at k
    exact iteF ⟨_, rfl, _, rfl, x, y, _, _, rfl, hx2, hy, sub_small oq op, _, rfl, _, rfl, _, _, rfl, rfl, .inl (mul64 bc), _, rfl, _, rfl, _, _, rfl, rfl, .inr (mul64 bl), _, _, rfl, rfl, k _ s12⟩
end
end Bl
end
section
set_option maxHeartbeats 2000000
namespace Bl
open PySem PySem.Spec PyProof.Rows L2
structure HullOk (h : Rg.Hull) : Prop where
  b : h.bow.ok = true
  s : h.stern.ok = true
  ne : h.bow ≠ h.stern
section
variable {P : Program} {w : World} {K : PySem.W.Frag} {mg : Str → Option Value} {base : Heap}
def spBehind : Sp := fun vs H Q _ => ∃ (a b : Addr) (c : Rg.Pt) (h : Rg.Hull), vs = [.ref a, .ref b] ∧ PtAt H c a ∧ HullAt H h b ∧ HullOk h ∧ ∀ H', Same H H' → Q (.bl (decide (Rg.dot h.heading (c.sub h.stern) < 0))) H'
theorem sc_behind : FnScope ["place", "hull"] ["place", "hull"] (defScope s_is_behind) := ⟨rfl, rfl, rfl, by decide +kernel, rfl, by decide +kernel, by decide +kernel⟩
theorem ok_behind (F : FunG K mg "is_behind" s_is_behind ["place", "hull"]) (OD : Ok P w K mg base 1 "dot" ["one", "other"] spDot) (OM : Ok P w K mg base 1 "minus" ["one", "other"] spMinus) (OH : Ok P w K mg base 2 "heading" ["hull"] spHeading) (OS : Ok P w K mg base 1 "stern" ["hull"] spStern) :
    Ok P w K mg base 3 "is_behind" ["place", "hull"] spBehind := by
  refine F.ok sc_behind (fun vs H Q E h => ?_) (fun f cdv A outer s H vs Q E hr h => ?_)
  · obtain ⟨a, b, c, h, rfl, _⟩ := h
    rfl
  · obtain ⟨a, b, c, h, rfl, hc, hh, ok, k⟩ := h
    have h1 := hr.mono (show 1 ≤ 2 by decide)
    refine ⟨_, pss_one (ps_ret (pe_cmpR op_lt (pe_fn OD h1 (pa_cons (pe_fn OH hr (pa_cons (pv 1) pa_nil)) (pa_cons (pe_fn OM h1 (pa_cons (pv 0) (pa_cons (pe_fn OS h1 (pa_cons (pv 1) pa_nil)) pa_nil))) pa_nil))) pe_int (nomark _))), ?_⟩
    exact ⟨_, rfl, b, h, rfl, hh, fun H1 x s1 hx => ⟨_, rfl, _, rfl, b, h, rfl, hh.same s1, fun H2 y s2 hy => ⟨a, y, c, _, rfl, hc.same (s1.trans s2), hy, fun H3 z s3 hz => ⟨x, z, _, _, rfl, hx.same (s2.trans s3), hz, head_small ok.b ok.s, _, _, rfl, rfl, k _ (s1.trans (s2.trans s3))⟩⟩⟩⟩
def spAstern : Sp := fun vs H Q _ => ∃ (a b : Addr) (g h : Rg.Hull), vs = [.ref a, .ref b] ∧ HullAt H g a ∧ HullAt H h b ∧ HullOk h ∧ ∀ H', Same H H' → Q (.bl (Rg.astern g h)) H'
theorem sc_astern : FnScope ["one", "other"] ["one", "other"] (defScope s_is_clear_astern) := ⟨rfl, rfl, rfl, by decide +kernel, rfl, by decide +kernel, by decide +kernel⟩
theorem ok_astern (F : FunG K mg "is_clear_astern" s_is_clear_astern ["one", "other"]) (OH : Ok P w K mg base 3 "is_behind" ["place", "hull"] spBehind) (OB : Ok P w K mg base 1 "bow" ["hull"] spBow) (OS : Ok P w K mg base 1 "stern" ["hull"] spStern) :
    Ok P w K mg base 4 "is_clear_astern" ["one", "other"] spAstern := by
  refine F.ok sc_astern (fun vs H Q E h => ?_) (fun f cdv A outer s H vs Q E hr h => ?_)
  · obtain ⟨a, b, g, h, rfl, _⟩ := h
    rfl
  · obtain ⟨a, b, g, h, rfl, hg, hh, ok, k⟩ := h
    have h1 := hr.mono (show 1 ≤ 3 by decide)
    refine ⟨_, pss_one (ps_ret (pe_and (pe_fn OH hr (pa_cons (pe_fn OB h1 (pa_cons (pv 0) pa_nil)) (pa_cons (pv 1) pa_nil))) (pe_one (pe_fn OH hr (pa_cons (pe_fn OS h1 (pa_cons (pv 0) pa_nil)) (pa_cons (pv 1) pa_nil)))))), ?_⟩
    unfold Rg.astern at k
    refine ⟨_, rfl, a, g, rfl, hg, fun H1 x s1 hx => ⟨_, rfl, x, b, _, h, rfl, hx, hh.same s1, ok, fun H2 s2 => ⟨_, rfl, ?_⟩⟩⟩
    have s12 := s1.trans s2
    by_cases c1 : Rg.dot h.heading (g.bow.sub h.stern) < 0
    · rw [decide_eq_true c1]
      rw [decide_eq_true c1, Bool.true_and] at k
      exact iteT ⟨_, rfl, a, g, rfl, hg.same s12, fun H3 y s3 hy => ⟨_, rfl, y, b, _, h, rfl, hy, hh.same (s12.trans s3), ok, fun H4 s4 => k _ (s12.trans (s3.trans s4))⟩⟩
    · rw [decide_eq_false c1]
      have kk := k _ s12
      rw [decide_eq_false c1, Bool.false_and] at kk
      exact iteF kk
def spLee : Sp := fun vs H Q _ => ∃ (a b e : Addr) (g h : Rg.Hull) (u : Rg.Pt), vs = [.ref a, .ref b, .ref e] ∧ HullAt H g a ∧ HullAt H h b ∧ PtAt H u e ∧ PtSm u ∧ ∀ H', Same H H' → Q (.bl (decide (0 < Rg.dot u ((g.bow.add g.stern).sub (h.bow.add h.stern))))) H'
theorem sc_lee : FnScope ["one", "other", "wind"] ["one", "other", "wind"] (defScope s_is_to_leeward) := ⟨rfl, rfl, rfl, by decide +kernel, rfl, by decide +kernel, by decide +kernel⟩
theorem ok_lee (F : FunG K mg "is_to_leeward" s_is_to_leeward ["one", "other", "wind"]) (OD : Ok P w K mg base 1 "dot" ["one", "other"] spDot) (OM : Ok P w K mg base 1 "minus" ["one", "other"] spMinus) (OI : Ok P w K mg base 2 "middle" ["hull"] spMiddle) :
    Ok P w K mg base 3 "is_to_leeward" ["one", "other", "wind"] spLee := by
  refine F.ok sc_lee (fun vs H Q E h => ?_) (fun f cdv A outer s H vs Q E hr h => ?_)
  · obtain ⟨a, b, e, g, h, u, rfl, _⟩ := h
    rfl
  · obtain ⟨a, b, e, g, h, u, rfl, hg, hh, hu, su, k⟩ := h
    have h1 := hr.mono (show 1 ≤ 2 by decide)
    refine ⟨_, pss_one (ps_ret (pe_cmpR op_gt (pe_fn OD h1 (pa_cons (pv 2) (pa_cons (pe_fn OM h1 (pa_cons (pe_fn OI hr (pa_cons (pv 0) pa_nil)) (pa_cons (pe_fn OI hr (pa_cons (pv 1) pa_nil)) pa_nil))) pa_nil))) pe_int (nomark _))), ?_⟩
    exact ⟨_, rfl, _, rfl, a, g, rfl, hg, fun H1 x s1 hx => ⟨_, rfl, b, h, rfl, hh.same s1, fun H2 y s2 hy => ⟨x, y, _, _, rfl, hx.same s2, hy, fun H3 z s3 hz => ⟨e, z, u, _, rfl, hu.same (s1.trans (s2.trans s3)), hz, su, _, _, rfl, rfl, k _ (s1.trans (s2.trans s3))⟩⟩⟩⟩
def spTouch : Sp := fun vs H Q _ => ∃ (a b : Addr) (g h : Rg.Hull), vs = [.ref a, .ref b] ∧ HullAt H g a ∧ HullAt H h b ∧ HullOk g ∧ HullOk h ∧ ∀ H', Same H H' → Q (.bl (Rg.touch g h)) H'
theorem sc_touch : FnScope ["one", "other"] ["one", "other"] (defScope s_do_touch) := ⟨rfl, rfl, rfl, by decide +kernel, rfl, by decide +kernel, by decide +kernel⟩
theorem ok_touch (F : FunG K mg "do_touch" s_do_touch ["one", "other"]) (OM : Ok P w K mg base 3 "meet" ["a", "b", "c", "d"] spMeet) (OB : Ok P w K mg base 1 "bow" ["hull"] spBow) (OS : Ok P w K mg base 1 "stern" ["hull"] spStern) :
    Ok P w K mg base 4 "do_touch" ["one", "other"] spTouch := by
  refine F.ok sc_touch (fun vs H Q E h => ?_) (fun f cdv A outer s H vs Q E hr h => ?_)
  · obtain ⟨a, b, g, h, rfl, _⟩ := h
    rfl
  · obtain ⟨a, b, g, h, rfl, hg, hh, og, oh, k⟩ := h
    have h1 := hr.mono (show 1 ≤ 3 by decide)
    refine ⟨_, pss_one (ps_ret (pe_fn OM hr (pa_cons (pe_fn OB h1 (pa_cons (pv 0) pa_nil)) (pa_cons (pe_fn OS h1 (pa_cons (pv 0) pa_nil)) (pa_cons (pe_fn OB h1 (pa_cons (pv 1) pa_nil)) (pa_cons (pe_fn OS h1 (pa_cons (pv 1) pa_nil)) pa_nil)))))), ?_⟩
    refine ⟨_, rfl, a, g, rfl, hg, fun H1 x1 s1 e1 => ⟨_, rfl, a, g, rfl, hg.same s1, fun H2 x2 s2 e2 => ⟨_, rfl, b, h, rfl, hh.same (s1.trans s2), fun H3 x3 s3 e3 => ⟨_, rfl, b, h, rfl, hh.same (s1.trans (s2.trans s3)), fun H4 x4 s4 e4 => ?_⟩⟩⟩⟩
    have s34 := s3.trans s4
    refine ⟨x1, x2, x3, x4, _, _, _, _, rfl, e1.same (s2.trans s34), e2.same s34, e3.same s4, e4, og.b, og.s, oh.b, oh.s, fun H5 s5 => ?_⟩
    have kk := k _ (s1.trans (s2.trans (s34.trans s5)))
    unfold Rg.touch at kk
    rw [← meets_eq og.ne oh.ne] at kk
    exact kk
def spZone : Sp := fun vs H Q _ => ∃ (a b : Addr) (h : Rg.Hull) (c : Rg.Pt) (n : Nat), vs = [.ref a, .ref b, .int (n : Int)] ∧ HullAt H h a ∧ PtAt H c b ∧ HullOk h ∧ c.ok = true ∧ n ≤ 64 ∧ ∀ H', Same H H' → Q (.bl (Rg.inZone h c n)) H'
theorem sc_zone : FnScope ["hull", "place", "lengths"] ["hull", "place", "lengths"] (defScope s_is_in_zone) := ⟨rfl, rfl, rfl, by decide +kernel, rfl, by decide +kernel, by decide +kernel⟩
theorem ok_in_zone (F : FunG K mg "is_in_zone" s_is_in_zone ["hull", "place", "lengths"]) (ON : Ok P w K mg base 3 "is_near" ["place", "p", "q", "lengths"] spNear) (OB : Ok P w K mg base 1 "bow" ["hull"] spBow) (OS : Ok P w K mg base 1 "stern" ["hull"] spStern) :
    Ok P w K mg base 4 "is_in_zone" ["hull", "place", "lengths"] spZone := by
  refine F.ok sc_zone (fun vs H Q E h => ?_) (fun f cdv A outer s H vs Q E hr h => ?_)
  · obtain ⟨a, b, h, c, n, rfl, _⟩ := h
    rfl
  · obtain ⟨a, b, h, c, n, rfl, hh, hc, oh, oc, hn, k⟩ := h
    have h1 := hr.mono (show 1 ≤ 3 by decide)
    refine ⟨_, pss_one (ps_ret (pe_fn ON hr (pa_cons (pv 1) (pa_cons (pe_fn OB h1 (pa_cons (pv 0) pa_nil)) (pa_cons (pe_fn OS h1 (pa_cons (pv 0) pa_nil)) (pa_cons (pv 2) pa_nil)))))), ?_⟩
    refine ⟨_, rfl, _, rfl, a, h, rfl, hh, fun H1 x s1 hx => ⟨_, rfl, a, h, rfl, hh.same s1, fun H2 y s2 hy => ⟨_, rfl, b, x, y, c, _, _, n, rfl, hc.same (s1.trans s2), hx.same s2, hy, oc, oh.b, oh.s, hn, fun H3 s3 => ?_⟩⟩⟩
    have kk := k _ (s1.trans (s2.trans s3))
    rw [← nearB_eq] at kk
    exact kk
def spInto : Sp := fun vs H Q _ => ∃ (a b : Addr) (p q : Rg.Pt), vs = [.ref a, .ref b] ∧ PtAt H p a ∧ PtAt H q b ∧ PtSm p ∧ Q (.bl (decide (Rg.dot p q < 0))) H
theorem sc_into : FnScope ["course", "wind"] ["course", "wind"] (defScope s_points_into) := ⟨rfl, rfl, rfl, by decide +kernel, rfl, by decide +kernel, by decide +kernel⟩
theorem ok_into (F : FunG K mg "points_into" s_points_into ["course", "wind"]) (OD : Ok P w K mg base 1 "dot" ["one", "other"] spDot) : Ok P w K mg base 2 "points_into" ["course", "wind"] spInto := by
  refine F.ok sc_into (fun vs H Q E h => ?_) (fun f cdv A outer s H vs Q E hr h => ?_)
  · obtain ⟨a, b, p, q, rfl, _⟩ := h
    rfl
  · obtain ⟨a, b, p, q, rfl, hp, hq, sp, k⟩ := h
    refine ⟨_, pss_one (ps_ret (pe_cmpR op_lt (pe_fn OD hr (pa_cons (pv 0) (pa_cons (pv 1) pa_nil))) pe_int (nomark _))), ?_⟩
    exact ⟨_, rfl, _, rfl, a, b, p, q, rfl, hp, hq, sp, _, _, rfl, rfl, k⟩
def spLeft : Sp := fun vs H Q _ => ∃ (a b : Addr) (p q : Rg.Pt), vs = [.ref a, .ref b] ∧ PtAt H p a ∧ PtAt H q b ∧ PtSm q ∧ Q (.bl (Rg.onLeft q p)) H
theorem sc_left : FnScope ["course", "mark", "lean"] ["course", "mark"] (defScope s_is_left) := ⟨rfl, rfl, rfl, by decide +kernel, rfl, by decide +kernel, by decide +kernel⟩
theorem ok_left (F : FunG K mg "is_left" s_is_left ["course", "mark"]) (OC : Ok P w K mg base 1 "cross" ["one", "other"] spCross) (OD : Ok P w K mg base 1 "dot" ["one", "other"] spDot) : Ok P w K mg base 2 "is_left" ["course", "mark"] spLeft := by
  refine F.ok sc_left (fun vs H Q E h => ?_) (fun f cdv A outer s H vs Q E hr h => ?_)
  · obtain ⟨a, b, p, q, rfl, _⟩ := h
    rfl
  · obtain ⟨a, b, p, q, rfl, hp, hq, sq, k⟩ := h
    refine ⟨_, pss_cons (ps_set (i := 2) sc_left.nd rfl (Or.inl rfl) (pe_fn OC hr (pa_cons (pv 1) (pa_cons (pv 0) pa_nil))))
      (pss_one (ps_ret (pe_or (pe_cmpR op_gt (pv 2) pe_int (nomark _)) (pe_one (pe_and (pe_cmpR op_eq (pv 2) pe_int (nomark _)) (pe_one (pe_cmpR op_gt (pe_fn OD hr (pa_cons (pv 1) (pa_cons (pv 0) pa_nil))) pe_int (nomark _)))))))), ?_⟩
    unfold Rg.onLeft at k
    refine ⟨_, rfl, _, rfl, b, a, q, p, rfl, hq, hp, sq, _, rfl, _, _, rfl, rfl, _, rfl, ?_⟩
    by_cases c1 : 0 < Rg.cross q p
    · rw [decide_eq_true c1]
      rw [decide_eq_true c1, Bool.true_or] at k
      exact iteT k
    rw [decide_eq_false c1]
    rw [decide_eq_false c1, Bool.false_or] at k
    refine iteF ⟨_, rfl, rfl, _, rfl, ?_⟩
    rw [dec_int]
    cases c2 : (Rg.cross q p == 0) with
    | true =>
      rw [c2, Bool.true_and] at k
      exact iteT ⟨_, rfl, _, rfl, b, a, q, p, rfl, hq, hp, sq, _, _, rfl, rfl, k⟩
    | false =>
      rw [c2, Bool.false_and] at k
      exact iteF k
def spPass : Sp := fun vs H Q _ => ∃ (a b c : Addr) (r h g : Rg.Pt), vs = [.ref a, .ref b, .ref c] ∧ PtAt H r a ∧ PtAt H h b ∧ PtAt H g c ∧ PtSm r ∧ PtSm h ∧ Q (.int (Rg.roundStep r h g)) H
theorem sc_pass : FnScope ["mark", "before", "after", "turn"] ["mark", "before", "after"] (defScope s_passing) := ⟨rfl, rfl, rfl, by decide +kernel, rfl, by decide +kernel, by decide +kernel⟩
theorem ok_passing (F : FunG K mg "passing" s_passing ["mark", "before", "after"]) (OC : Ok P w K mg base 1 "cross" ["one", "other"] spCross) (OL : Ok P w K mg base 2 "is_left" ["course", "mark"] spLeft) : Ok P w K mg base 3 "passing" ["mark", "before", "after"] spPass := by
  refine F.ok sc_pass (fun vs H Q E h => ?_) (fun f cdv A outer s H vs Q E hr h => ?_)
  · obtain ⟨a, b, c, r, h, g, rfl, _⟩ := h
    rfl
  · obtain ⟨a, b, c, r, h, g, rfl, ha, hb, hc, sr, sh, k⟩ := h
    have h1 := hr.mono (show 1 ≤ 2 by decide)
    refine ⟨_, pss_cons (ps_set (i := 3) sc_pass.nd rfl (Or.inl rfl) (pe_fn OC h1 (pa_cons (pv 1) (pa_cons (pv 2) pa_nil))))
      (pss_cons (ps_if (pw_and (pt_cmpR op_gt (pv 3) pe_int (nomark _)) (pw_and (pt_not (pt_val (pe_fn OL hr (pa_cons (pv 1) (pa_cons (pv 0) pa_nil))))) (pw_and1 (pt_val (pe_fn OL hr (pa_cons (pv 2) (pa_cons (pv 0) pa_nil))))))).pt (pss_one (ps_ret pe_int)) pss_nil)
      (pss_cons (ps_if (pw_and (pt_cmpR op_lt (pv 3) pe_int (nomark _)) (pw_and (pt_val (pe_fn OL hr (pa_cons (pv 1) (pa_cons (pv 0) pa_nil)))) (pw_and1 (pt_not (pt_val (pe_fn OL hr (pa_cons (pv 2) (pa_cons (pv 0) pa_nil)))))))).pt (pss_one (ps_ret (pe_un un_neg pe_int))) pss_nil)
      (pss_one (ps_ret pe_int)))), ?_⟩
    unfold Rg.roundStep at k
    refine ⟨_, rfl, _, rfl, b, c, h, g, rfl, hb, hc, sh, _, rfl, _, _, rfl, rfl, _, rfl, ?_⟩
    by_cases c1 : 0 < Rg.cross h g
    · rw [decide_eq_true c1]
      refine iteT ⟨_, rfl, _, rfl, b, a, h, r, rfl, hb, ha, sr, _, rfl, ?_⟩
      cases e1 : Rg.onLeft r h with
      | true =>
        rw [if_neg (fun z => by rw [e1] at z; exact Bool.noConfusion z.1), if_neg (fun z => by have := z.2.2; omega)] at k
        refine iteF (iteF ⟨_, rfl, _, _, rfl, rfl, _, rfl, ?_⟩)
        rw [decide_eq_false (show ¬ Rg.cross h g < 0 by omega)]
        exact iteF (iteF k)
      | false =>
        refine iteT ⟨_, rfl, _, rfl, c, a, g, r, rfl, hc, ha, sr, _, rfl, ?_⟩
        cases e2 : Rg.onLeft r g with
        | true =>
          rw [if_pos ⟨e1, e2, c1⟩] at k
          exact iteT k
        | false =>
          rw [if_neg (fun z => by rw [e2] at z; exact Bool.noConfusion z.2.1), if_neg (fun z => by have := z.2.2; omega)] at k
          refine iteF ⟨_, rfl, _, _, rfl, rfl, _, rfl, ?_⟩
          rw [decide_eq_false (show ¬ Rg.cross h g < 0 by omega)]
          exact iteF (iteF k)
    rw [decide_eq_false c1]
    rw [if_neg (fun z => c1 z.2.2)] at k
    refine iteF (iteF ⟨_, rfl, _, _, rfl, rfl, _, rfl, ?_⟩)
    by_cases c2 : Rg.cross h g < 0
    · rw [decide_eq_true c2]
      refine iteT ⟨_, rfl, _, rfl, b, a, h, r, rfl, hb, ha, sr, _, rfl, ?_⟩
      cases e1 : Rg.onLeft r h with
      | true =>
        refine iteT ⟨_, rfl, _, rfl, c, a, g, r, rfl, hc, ha, sr, _, rfl, ?_⟩
        cases e2 : Rg.onLeft r g with
        | true =>
          rw [if_neg (fun z => by rw [e2] at z; exact Bool.noConfusion z.2.1)] at k
          exact iteF k
        | false =>
          rw [if_pos ⟨e1, e2, c2⟩] at k
          exact iteT ⟨_, rfl, k⟩
      | false =>
        rw [if_neg (fun z => by rw [e1] at z; exact Bool.noConfusion z.1)] at k
        exact iteF (iteF k)
    · rw [decide_eq_false c2]
      rw [if_neg (fun z => c2 z.2.2)] at k
      exact iteF (iteF k)
end
end Bl
end
section
set_option maxHeartbeats 2000000
namespace Bl
open PySem PySem.Spec PyProof.Rows L2
theorem pe_fldK {X : Cx} {K : PySem.W.Frag} {e : Expr} {ta : TE} {f : Str} {pos : Pos} (hK : X.K = K) (he : PE X e ta) (hb : attributeBase e f X.env (eval e X.env) = eval e X.env) : PE X (.Attribute e f pos) (tFld K ta f) := by
  subst hK
  exact pe_fld he hb
theorem lc_zipR {K : PySem.W.Frag} {a b : Addr} {xs zs : List V} {te : TE} {vs : List Nat} {j j2 : Nat} {σ : L2.St} {H1 : Hp} {D : Addr} {Qd : Hp → Prop} (R : Nat → V → Hp → Prop) (Rm : ∀ i y G G', Same G G' → R i y G → R i y G') (hD : H1 D = none) (ha : H1 a = some (.lst xs))
    (hb : H1 b = some (.lst zs)) (hl : zs.length ≤ xs.length) (hn : zs.length ≤ 10000000) (hw : ∀ v u, wipe (((wipe σ vs).set j v).set j2 u) vs = wipe σ vs)
    (step : ∀ i x z, xs[i]? = some x → zs[i]? = some z → LcStep te H1 D (((wipe σ vs).set j (some x)).set j2 (some z)) (R i)) (hd : ∀ H, LcInv H1 D R zs.length H → Qd H) :
    ∃ W : Nat → Nat → Hp → Prop, (∃ m, W 0 m (upd H1 D (.lst []))) ∧ ∀ i m H, W i m H →
      ((Itz K a b).stop i H ∧ Qd H) ∨ ((Itz K a b).go i H ∧ ∃ Nx : Hp → Prop, (∀ H', Nx H' → ∃ m', m' < m ∧ W (i + 1) m' H') ∧ ∀ x H', (Itz K a b).yld i H x H' → gTup K 2 (gCons (gName j) (gCons (gName j2) gNil)) x (wipe σ vs) H' fun σ2 H2 => wipe σ2 vs = wipe σ vs ∧ tYes σ2 H2 fun b H3 =>
        if b = true then te σ2 H3 fun y H4 => ∃ acc, H4 D = some (.lst acc) ∧ acc.length < sizeLine ∧ Nx (upd H4 D (.lst (acc ++ [y]))) else Nx H3) := by
  refine ⟨fun i m H => m = zs.length - i ∧ i ≤ zs.length ∧ LcInv H1 D R i H, ⟨zs.length, by simp, Nat.zero_le _, LcInv.zero hD⟩, ?_⟩
  rintro i m H ⟨rfl, hi, p⟩
  have q1 : SqL K H a xs := SqL.of (p.same _ _ ha)
  have q2 : SqL K H b zs := SqL.of (p.same _ _ hb)
  by_cases hlt : i < zs.length
  · have hlt2 : i < xs.length := by omega
    refine .inr ⟨⟨xs, zs, xs[i], zs[i], q1, q2, by simp [hlt2], by simp [hlt]⟩, LcInv H1 D R (i + 1), fun H' p' => ⟨zs.length - (i + 1), by omega, rfl, hlt, p'⟩, fun x H' y => ?_⟩
    obtain ⟨T, x1, z1, rfl, hT, rfl, e1, e2⟩ := y
    have hx := e1 xs q1
    have hz := e2 zs q2
    have p' : LcInv H1 D R i (upd H T (.tup [x1, z1])) := by
      obtain ⟨⟨ys, h1, h2, h3⟩, h4⟩ := p
      have nT : Same H (upd H T (.tup [x1, z1])) := Same.new hT
      exact ⟨⟨ys, nT _ _ h1, h2, fun k y e => Rm _ _ _ _ (Same.off nT) (h3 k y e)⟩, h4.trans nT⟩
    refine ⟨T, _, rfl, SqT.of upd_same, rfl, x1, _, rfl, z1, _, rfl, rfl, hw _ _, ?_⟩
    apply tYes_ite
    exact step i x1 z1 hx hz _ _ p'.same (let ⟨ys, e, _⟩ := p'.ex; ⟨ys, e⟩) fun y H4 s r => p'.next Rm hD s r (by omega)
  · have e : i = zs.length := by omega
    subst e
    exact .inl ⟨⟨xs, zs, q1, q2, .inr (Nat.le_refl _)⟩, hd H p⟩
theorem rounds_zip (r : Rg.Pt) : ∀ cs : List Rg.Pt, Rg.roundsOf r cs = ((cs.zip cs.tail).map fun (x : Rg.Pt × Rg.Pt) => Rg.roundStep r x.1 x.2).sum
  | [] => rfl
  | [_] => rfl
  | h :: g :: l => by
    have ih := rounds_zip r (g :: l)
    show Rg.roundStep r h g + Rg.roundsOf r (g :: l) = _
    rw [ih]
    show _ = (Rg.roundStep r h g :: (((g :: l).zip (g :: l).tail).map fun (x : Rg.Pt × Rg.Pt) => Rg.roundStep r x.1 x.2)).sum
    rw [List.sum_cons]
theorem pt_item {cs : List Rg.Pt} {as : List Addr} {H : Hp} {i : Nat} {y : V} (hp : Paired (fun a x => PtAt H x a) as cs) (hi : (as.map V.ref)[i]? = some y) : ∃ c p, y = .ref c ∧ cs[i]? = some p ∧ PtAt H p c := by
  rw [List.getElem?_map] at hi
  cases e : as[i]? with
  | none => rw [e] at hi; cases hi
  | some c =>
    rw [e] at hi
    obtain ⟨h, h1, h2⟩ := paired_getL hp e
    exact ⟨c, h, (Option.some.inj hi).symm, h1, h2⟩
section
variable {P : Program} {w : World} {K : PySem.W.Frag} {mg : Str → Option Value} {base : Heap} {CL CM CB : Addr}
def spRounds : Sp := fun vs H Q _ => ∃ (a : Addr) (r : Rg.Pt) (cs : List Rg.Pt), vs = [.ref a] ∧ RefsAt H (PtAt H) (r :: cs) a ∧ (∀ c ∈ r :: cs, PtSm c) ∧ cs.length ≤ 100000 ∧ ∀ H', Same H H' → Q (.int (Rg.roundsOf r (r :: cs))) H'
theorem sc_rounds : FnScope ["courses", "before", "after"] ["courses"] (defScope s_rounds) := ⟨rfl, rfl, rfl, by decide +kernel, rfl, by decide +kernel, by decide +kernel⟩
theorem ok_rounds (F : FunG K mg "rounds" s_rounds ["courses"]) (T : Txt mg) (OP : Ok P w K mg base 3 "passing" ["mark", "before", "after"] spPass) : Ok P w K mg base 4 "rounds" ["courses"] spRounds := by
  refine F.ok sc_rounds (fun vs H Q E h => ?_) (fun f cdv A outer s H vs Q E hr h => ?_)
  · obtain ⟨a, r, cs, rfl, _⟩ := h
    rfl
  · obtain ⟨a, r, cs, rfl, ⟨as, ha, hp⟩, sm, hlen, k⟩ := h
    refine ⟨_, pss_one (ps_ret (pe_callB (cr_sum rfl) (by rfl) T.b_sum boot_sum (pa_cons (pe_lc (own := [("before", 1), ("after", 2)]) rfl sc_rounds.nd (pi_zip rfl T.b_zip (pa_cons (pv 0) (pa_cons (pe_slice sl_list (pv 0) (po_some pe_int) po_none) pa_nil)))
        (blkOk_by (N := ["courses", "before", "after"]) (sc := defScope s_rounds) (by decide +kernel))
        (fun _ _ _ _ _ => pg_tupK (K := K) (n := 2) rfl rfl (pgs_cons (pg_name (i := 1) sc_rounds.nd rfl (Or.inl rfl)) (pgs_cons (pg_name (i := 2) sc_rounds.nd rfl (Or.inl rfl)) pgs_nil))) (fun _ _ _ _ _ => pts_nil)
        (fun _ _ _ _ _ => pe_fn OP hr (pa_cons (pe_ix (ix_listK (K := K) rfl) (pv 0) pe_int (fun _ _ => rfl)) (pa_cons (pv 1) (pa_cons (pv 2) pa_nil))))) pa_nil))), ?_⟩
    have hlen2 := hp.length
    rw [List.length_cons] at hlen2
    refine ⟨_, rfl, _, rfl, _, rfl, a, _, rfl, SqL.of ha, fun p hpn => ?_⟩
    rw [cut_drop1]
    have s1 : Same H (upd H p (.lst ((as.map V.ref).drop 1))) := Same.new hpn
    have ep : (upd H p (.lst ((as.map V.ref).drop 1))) p = some (.lst ((as.map V.ref).drop 1)) := upd_same
    generalize upd H p (.lst ((as.map V.ref).drop 1)) = H1 at s1 ep ⊢
    refine ⟨a, p, _, _, rfl, SqL.of (s1 _ _ ha), SqL.of ep, fun D hD => lc_zipR (xs := as.map V.ref) (zs := (as.map V.ref).drop 1) (R := fun i y _ => ∃ h g, (r :: cs)[i]? = some h ∧ (r :: cs)[i + 1]? = some g ∧ y = .int (Rg.roundStep r h g)) (fun _ _ _ _ _ h => h) hD (s1 _ _ ha) ep
      (by rw [List.length_drop]; omega) (by rw [List.length_drop, List.length_map]; omega) (fun _ _ => rfl) ?_ ?_⟩
    · rintro i x z hx hz H3 Q3 s3 _ q3
      rw [List.getElem?_drop, Nat.add_comm 1 i] at hz
      obtain ⟨d1, p1, rfl, e1, h1⟩ := pt_item hp hx
      obtain ⟨d2, p2, rfl, e2, h2⟩ := pt_item hp hz
      obtain ⟨d0, e0, h0⟩ := paired_get (i := 0) (b := r) hp rfl
      have s13 := s1.trans s3
      refine ⟨_, rfl, a, _, _, V.ref d0, rfl, rfl, SqL.of (s13 _ _ ha), atI_nat (j := 0) (by rw [List.getElem?_map, e0]; rfl), _, rfl, _, rfl, d0, d1, d2, r, p1, p2, rfl, h0.same s13, h1.same s13, h2.same s13, sm r List.mem_cons_self, sm p1 (List.mem_of_getElem? e1), q3 _ _ (Same.refl _) ⟨p1, p2, e1, e2, rfl⟩⟩
    · intro H3 hI
      refine ⟨D, ((r :: cs).zip cs).map fun (x : Rg.Pt × Rg.Pt) => Rg.roundStep r x.1 x.2, rfl, SqL.of (hI.eq ?_ ?_), ?_⟩
      · rw [List.length_map, List.length_map, List.length_zip, List.length_drop, List.length_map, List.length_cons]
        omega
      · rintro j y hj ⟨h, g, e1, e2, rfl⟩
        rw [List.getElem?_map, List.getElem?_map, show ((r :: cs).zip cs)[j]? = some (h, g) from List.getElem?_zip_eq_some.mpr ⟨e1, by simpa using e2⟩]
        rfl
      · have kk := k _ (s1.trans hI.same)
        rw [rounds_zip] at kk
        exact kk
def spHeads (CM : Addr) : Sp := fun vs H Q _ => ∃ (a : Addr) (i : Nat) (m : MomT) (h : Rg.Hull), vs = [.ref a, .int (i : Int)] ∧ MomAt CM H m a ∧ m.1.2[i]? = some h ∧ HullOk h ∧ ∀ H', Same H H' → Q (.bl (Rg.pointsUp (m.1.1, h))) H'
theorem sc_heads : FnScope ["self", "i"] ["self", "i"] (defScope s_Moment_heads_into_wind) := ⟨rfl, rfl, rfl, by decide +kernel, rfl, by decide +kernel, by decide +kernel⟩
theorem ok_heads (F : FunM K CM "heads_into_wind" "Moment.heads_into_wind" s_Moment_heads_into_wind ["self", "i"]) (C : Cs K CL CM CB) (OI : Ok P w K mg base 2 "points_into" ["course", "wind"] spInto) (OH : Ok P w K mg base 2 "heading" ["hull"] spHeading) :
    OkM P w K mg base CM 3 "heads_into_wind" ["self", "i"] (spHeads CM) := by
  refine F.ok sc_heads (fun vs H Q E h => ?_) (fun f cdv A outer s H vs Q E hr h => ?_)
  · obtain ⟨a, i, m, h, rfl, _⟩ := h
    rfl
  · obtain ⟨a, i, m, h, rfl, M, hi, ok, k⟩ := h
    refine ⟨_, pss_one (ps_ret (pe_fn OI hr (pa_cons (pe_fn OH hr (pa_cons (pe_ix ix_list (pe_fld (pv 0) rfl) (pv 1) (fun _ _ => rfl)) pa_nil)) (pa_cons (pe_fld (pv 0) rfl) pa_nil)))), ?_⟩
    obtain ⟨dx, ah, aw, at_, f1, ⟨hs, f2, f2'⟩, f3, f4⟩ := M.ex
    obtain ⟨c, ec, rc⟩ := paired_get f2' hi
    exact ⟨_, rfl, a, CM, dx, _, _, rfl, f1, C.cM, C.mH, lk_h, _, rfl, ah, _, _, V.ref c, rfl, rfl, SqL.of f2, atI_nat (by rw [List.getElem?_map, ec]; rfl), c, h, rfl, rc, fun H1 x s1 hx => ⟨_, rfl, a, CM, dx, _, _, rfl, s1 _ _ f1, C.cM, C.mW, lk_u, x, aw, _, _, rfl, hx, f3.same s1, head_small ok.b ok.s, k _ s1⟩⟩
def changeV (t t' : Bool) (x x' : Rg.Pt × Rg.Hull) : V := if t' = t then .non else .int (if (Rg.pointsUp x || Rg.pointsUp x') = true then 1 else 2)
def spChange (CM : Addr) : Sp := fun vs H Q _ => ∃ (a b : Addr) (i : Nat) (m m' : MomT) (h h' : Rg.Hull) (t t' : Bool), vs = [.ref a, .ref b, .int (i : Int)] ∧ MomAt CM H m' a ∧ MomAt CM H m b ∧ m.1.2[i]? = some h ∧ m'.1.2[i]? = some h' ∧ m.2[i]? = some t ∧ m'.2[i]? = some t' ∧ HullOk h ∧ HullOk h' ∧
  ∀ H', Same H H' → Q (changeV t t' (m.1.1, h) (m'.1.1, h')) H'
theorem sc_change : FnScope ["self", "before", "i"] ["self", "before", "i"] (defScope s_Moment_change_since) := ⟨rfl, rfl, rfl, by decide +kernel, rfl, by decide +kernel, by decide +kernel⟩
theorem tV_inj {a b : Bool} : tV a = tV b ↔ a = b := by
  cases a <;> cases b <;> decide
theorem ok_change (F : FunM K CM "change_since" "Moment.change_since" s_Moment_change_since ["self", "before", "i"]) (T : Txt mg) (C : Cs K CL CM CB) (OI : OkM P w K mg base CM 3 "heads_into_wind" ["self", "i"] (spHeads CM)) :
    OkM P w K mg base CM 4 "change_since" ["self", "before", "i"] (spChange CM) := by
  refine F.ok sc_change (fun vs H Q E h => ?_) (fun f cdv A outer s H vs Q E hr h => ?_)
  · obtain ⟨a, b, i, m, m', h, h', t, t', rfl, _⟩ := h
    rfl
  · obtain ⟨a, b, i, m, m', h, h', t, t', rfl, M', M, hh, hh', ht, ht', ok, ok', k⟩ := h
    refine ⟨_, pss_cons (ps_if (pt_cmpR op_eq (pe_ix ix_list (pe_fld (pv 0) rfl) (pv 2) (fun _ _ => rfl)) (pe_ix ix_list (pe_fld (pv 1) rfl) (pv 2) (fun _ _ => rfl)) (nomark _)) (pss_one (ps_ret pe_non)) pss_nil)
      (pss_cons (ps_if (pw_or (pt_val (pe_mt C.cM OI hr (pv 1) (pa_cons (pv 2) pa_nil))) (pw_or1 (pt_val (pe_mt C.cM OI hr (pv 0) (pa_cons (pv 2) pa_nil))))).pt (pss_one (ps_ret (pe_gi T.c_TACKS))) pss_nil)
      (pss_one (ps_ret (pe_gi T.c_GYBES)))), ?_⟩
    obtain ⟨dx, ah, aw, at_, f1, _, _, f4⟩ := M.ex
    obtain ⟨dx', ah', aw', at', f1', _, _, f4'⟩ := M'.ex
    refine ⟨_, rfl, a, CM, dx', _, _, rfl, f1', C.cM, C.mT, lk_t, _, rfl, at', _, _, tV t', rfl, rfl, SqL.of f4', atI_nat (by rw [List.getElem?_map, ht']; rfl), _, rfl, b, CM, dx, _, _, rfl, f1, C.cM, C.mT, lk_t, _, rfl, at_, _, _, tV t, rfl, rfl, SqL.of f4, atI_nat (by rw [List.getElem?_map, ht]; rfl), rfl, _, rfl, ?_⟩
    unfold changeV at k
    by_cases e : t' = t
    · rw [decide_eq_true (tV_inj.mpr e)]
      rw [if_pos e] at k
      exact iteT (k _ (Same.refl _))
    rw [decide_eq_false (fun z => e (tV_inj.mp z))]
    rw [if_neg e] at k
    refine iteF ⟨_, rfl, b, dx, _, rfl, f1, rfl, _, rfl, b, i, m, h, rfl, M, hh, ok, fun H1 s1 => ⟨_, rfl, ?_⟩⟩
    cases e1 : Rg.pointsUp (m.1.1, h) with
    | true =>
      rw [e1, Bool.true_or, if_pos rfl] at k
      exact iteT (iteT (k _ s1))
    | false =>
      rw [e1, Bool.false_or] at k
      refine iteF ⟨_, rfl, a, dx', _, rfl, s1 _ _ f1', rfl, _, rfl, a, i, m', h', rfl, M'.same s1, hh', ok', fun H2 s2 => ⟨_, rfl, ?_⟩⟩
      cases e2 : Rg.pointsUp (m'.1.1, h') with
      | true =>
        rw [e2, if_pos rfl] at k
        exact iteT (k _ (s1.trans s2))
      | false =>
        rw [e2, if_neg Bool.false_ne_true] at k
        exact iteF (k _ (s1.trans s2))
end
end Bl
end
section
set_option maxHeartbeats 2000000
namespace Bl
open PySem PySem.Spec PyProof.Rows L2
def Apart (l : Rg.Log) : Prop := ∀ hs, Rg.LogLine.at_ hs ∈ l → ∀ h ∈ hs, h.bow ≠ h.stern
theorem Apart.add {l : Rg.Log} {x : Rg.LogLine} (A : Apart l) (h : Rg.wrongOf l x = 0) : Apart (l ++ [x]) := by
  intro hs hm y hy
  rcases List.mem_append.mp hm with hm | hm
  · exact A hs hm y hy
  · have e := List.mem_singleton.mp hm
    subst e
    unfold Rg.wrongOf at h
    split at h
    · cases h
    · split at h
      · cases h
      · rename_i hc
        intro e
        apply hc
        show (hs.any (fun (x : Rg.Hull) => x.bow == x.stern) || _) = true
        rw [Bool.or_eq_true]
        exact .inl (List.any_eq_true.mpr ⟨y, hy, beq_iff_eq.mpr e⟩)
theorem Apart.lines : ∀ {bs : List Rg.Bytes} {l m : Rg.Log}, Apart l → addLines l bs = .ok m → Apart m
  | [], l, m, F, h => by cases h; exact F
  | b :: r, l, m, F, h => by
    rw [addLines_cons] at h
    cases hx : Rg.lineIn b with
    | none => rw [hx] at h; cases h
    | some x =>
      rw [hx] at h
      replace h : (if Rg.wrongOf l x = 0 then addLines (l ++ [x]) r else .error (l.length, Rg.wrongOf l x)) = .ok m := h
      split at h
      · rename_i h0
        exact Apart.lines (F.add h0) h
      · cases h
theorem held_apart {l : Rg.Log} (h : Held l) : Apart l := by
  unfold Held write at h
  cases ha : addLines [] (linesOf (Rg.logText l)) with
  | error e => rw [ha] at h; cases h
  | ok m =>
    rw [ha] at h
    replace h : (if lastOf (Rg.logText l) = [] then (Except.ok m : Except (Nat × Nat) Rg.Log) else .error (m.length, 1)) = .ok l := h
    split at h
    · cases h
      exact Apart.lines (fun hs hm => by cases hm) ha
    · cases h
theorem BookAt.hull {CB CL CM : Addr} {S : List Addr} {H : Hp} {pb : Addr} {l : Rg.Log} (B : BookAt CB CL CM S H pb l) {mo : Mom} (hm : mo ∈ Rg.moments l) {h : Rg.Hull} (hh : h ∈ mo.2) : HullOk h := by
  have o := (moment_ok B.ok hm).1 h hh
  exact ⟨o.1, o.2, held_apart B.held _ (moments_mem hm).1 h hh⟩
theorem pt_small {p : Rg.Pt} (h : p.ok = true) : PtSm p := by
  have := ok_small h
  refine ⟨⟨?_, ?_⟩, ?_, ?_⟩
  · show -(2 ^ 40) ≤ p.x; omega
  · show p.x ≤ 2 ^ 40; omega
  · show -(2 ^ 40) ≤ p.y; omega
  · show p.y ≤ 2 ^ 40; omega
def ansOf (a : Wqatcu.Ans) : List Int := a.ret :: a.nums
abbrev here (l : Rg.Log) (i m : Nat) : Prop := i < (Rg.boats l).length ∧ m < (Rg.moments l).length
theorem there_iff (l : Rg.Log) (i m : Nat) : Wqatcu.there l i m = false ↔ ¬ here l i m := by
  unfold Wqatcu.there here
  rw [← Bool.not_eq_true, Bool.and_eq_true, decide_eq_true_iff, decide_eq_true_iff]
theorem next_no {l : Rg.Log} {i m : Nat} (h : ¬ here l i m) : ansOf (Wqatcu.told l (.next i m)) = [-4] := by
  show ansOf (if Wqatcu.there l i m = false then _ else _) = _
  rw [if_pos ((there_iff l i m).mpr h)]
  rfl
theorem next_yes {l : Rg.Log} {i m : Nat} (h : here l i m) : ansOf (Wqatcu.told l (.next i m)) = match Rg.firstFrom (m + 1) (Rg.moments l).length fun (k : Nat) => Rg.changeAt l i k != 0 with
    | some k => [0, (k : Int), (Rg.changeAt l i k : Int)]
    | none => [-3] := by
  show ansOf (if Wqatcu.there l i m = false then _ else _) = _
  rw [if_neg (fun z => (there_iff l i m).mp z h)]
  cases Rg.firstFrom (m + 1) (Rg.moments l).length fun (k : Nat) => Rg.changeAt l i k != 0 <;> rfl
theorem change_eq {l : Rg.Log} {i k : Nat} {t t' : Bool} {x x' : Rg.Pt × Rg.Hull} (e1 : (Rg.tacks l i)[k]? = some t) (e2 : (Rg.tacks l i)[k + 1]? = some t') (e3 : (Rg.track l i)[k]? = some x) (e4 : (Rg.track l i)[k + 1]? = some x') :
    Rg.changeAt l i (k + 1) = if t = t' then 0 else if (Rg.pointsUp x || Rg.pointsUp x') = true then 1 else 2 := by
  unfold Rg.changeAt
  rw [if_neg (Nat.succ_ne_zero k), show k + 1 - 1 = k from rfl, e1, e2, e3, e4]
theorem changeV_eq {l : Rg.Log} {i k : Nat} {t t' : Bool} {x x' : Rg.Pt × Rg.Hull} (e1 : (Rg.tacks l i)[k]? = some t) (e2 : (Rg.tacks l i)[k + 1]? = some t') (e3 : (Rg.track l i)[k]? = some x) (e4 : (Rg.track l i)[k + 1]? = some x') :
    (Rg.changeAt l i (k + 1) = 0 ∧ changeV t t' x x' = .non) ∨ (Rg.changeAt l i (k + 1) ≠ 0 ∧ changeV t t' x x' = .int (Rg.changeAt l i (k + 1) : Int)) := by
  rw [change_eq e1 e2 e3 e4]
  unfold changeV
  by_cases h : t = t'
  · exact .inl ⟨by rw [if_pos h], by rw [if_pos h.symm]⟩
  · right
    rw [if_neg h, if_neg (show ¬ t' = t from fun z => h z.symm)]
    by_cases h2 : (Rg.pointsUp x || Rg.pointsUp x') = true
    · rw [if_pos h2, if_pos h2]; exact ⟨by decide, rfl⟩
    · rw [if_neg h2, if_neg h2]; exact ⟨by decide, rfl⟩
section
variable {P : Program} {w : World} {K : PySem.W.Frag} {mg : Str → Option Value} {base : Heap} {CL CM CB : Addr}
theorem BookAt.at {S : List Addr} {H : Hp} {pb : Addr} {l : Rg.Log} (B : BookAt CB CL CM S H pb l) {ms : List Addr} {G : Hp} (sG : Same G H) (g5 : Paired (fun a x => MomAt CM G x a) ms (momsOf l)) {i m : Nat} (hb : here l i m) :
    ∃ (a : Addr) (mo : MomT) (h : Rg.Hull) (t : Bool), ms[m]? = some a ∧ MomAt CM H mo a ∧ mo.1.2[i]? = some h ∧ mo.2[i]? = some t ∧ HullOk h ∧ PtSm mo.1.1 ∧ (Rg.track l i)[m]? = some (mo.1.1, h) ∧ (Rg.tacks l i)[m]? = some t := by
  obtain ⟨mo, ts, h, t, e1, e2, e3, e4, e5, e6⟩ := moms_get B.fit hb.1 hb.2
  obtain ⟨a, ea, ra⟩ := paired_get g5 e1
  exact ⟨a, (mo, ts), h, t, ea, ra.same sG, e3, e4, B.hull (List.mem_of_getElem? e2) (List.mem_of_getElem? e3), pt_small (moment_ok B.ok (List.mem_of_getElem? e2)).2, e5, e6⟩
theorem sc_next : FnScope ["self", "i", "m", "moments", "k", "change"] ["self", "i", "m"] (defScope s_Book_next_change) := ⟨rfl, rfl, rfl, by decide +kernel, rfl, by decide +kernel, by decide +kernel⟩
theorem ok_next (F : FunM K CB "next_change" "Book.next_change" s_Book_next_change ["self", "i", "m"]) (T : Txt mg) (C : Cs K CL CM CB) (OB : OkM P w K mg base CB 1 "has_boat" ["self", "i"] (spHas CB CL CM fun l => (Rg.boats l).length)) (OM : OkM P w K mg base CB 1 "has_moment" ["self", "m"] (spHas CB CL CM fun l => (Rg.moments l).length))
    (OC : OkM P w K mg base CM 4 "change_since" ["self", "before", "i"] (spChange CM)) : OkM P w K mg base CB 5 "next_change" ["self", "i", "m"] (spR2 CB CL CM fun l i m => ansOf (Wqatcu.told l (.next i m))) := by
  refine F.ok sc_next (fun vs H Q E h => ?_) (fun f cdv A outer s H vs Q E hr h => ?_)
  · obtain ⟨pb, S, l, i, m, rfl, _⟩ := h
    rfl
  · obtain ⟨pb, S, l, i, m, rfl, B, k⟩ := h
    replace k : ∀ (H' : Hp) (q : Addr), Same H H' → AnsAt H H' (ansOf (Wqatcu.told l (.next i m))) q → Q (.ref q) H' := k
    have h1 := hr.mono (show 1 ≤ 4 by decide)
    refine ⟨_, pss_cons (ps_if (pt_imp (t' := fun σ H' Q' => σ = [some (.ref pb), some (.int (i : Int)), some (.int (m : Int)), none, none, none] ∧ H' = H ∧ Q' (!decide (here l i m)) H)
          (pw_or (pt_not (pt_val (pe_mt C.cB OB h1 (pv 0) (pa_cons (pv 1) pa_nil)))) (pw_or1 (pt_not (pt_val (pe_mt C.cB OM h1 (pv 0) (pa_cons (pv 2) pa_nil)))))).pt ?c1) (pss_one (ps_ret (pe_lst (pa_cons (pe_gi T.c_NO_SUCH) pa_nil)))) pss_nil)
      (pss_cons (ps_set (i := 3) sc_next.nd rfl (Or.inl rfl) (pe_fld (pe_fld (pv 0) rfl) rfl))
      (pss_cons (ps_for PassesOwn.never rfl (pi_range2 rfl T.b_range (pa_cons (pe_op op_add (pv 2) pe_int) (pa_cons (pe_len T.b_len (pv 3)) pa_nil))) (pg_name (i := 4) sc_next.nd rfl (Or.inl rfl))
        (pss_cons (ps_set (i := 5) sc_next.nd rfl (Or.inl rfl) (pe_mt C.cM OC hr (pe_ix ix_list (pv 3) (pv 4) (fun _ _ => rfl)) (pa_cons (pe_ix ix_list (pv 3) (pe_op op_sub (pv 4) pe_int) (fun _ _ => rfl)) (pa_cons (pv 1) pa_nil))))
        (pss_one (ps_if (pt_cmpR op_notN (pv 5) pe_non (nomark _)) (pss_one (ps_ret (pe_lst (pa_cons (pe_gi T.c_DONE) (pa_cons (pv 4) (pa_cons (pv 5) pa_nil)))))) pss_nil))))
      (pss_one (ps_ret (pe_lst (pa_cons (pe_gi T.c_NONE_FOUND) pa_nil)))))), ?_⟩
    all_goals obtain ⟨dxb, pl, M, b1, L⟩ := B.ex
    case c1 =>
      rintro σ H' Q' ⟨rfl, rfl, q⟩
      refine ⟨_, rfl, pb, dxb, _, rfl, b1, rfl, _, rfl, pb, S, l, i, rfl, B, _, rfl, ?_⟩
      by_cases hi : i < (Rg.boats l).length
      · rw [decide_eq_true hi]
        refine iteF ⟨_, rfl, pb, dxb, _, rfl, b1, rfl, _, rfl, pb, S, l, m, rfl, B, _, rfl, ?_⟩
        rw [show decide (here l i m) = decide (m < (Rg.moments l).length) by congr 1; exact propext ⟨fun z => z.2, fun z => ⟨hi, z⟩⟩] at q
        exact q
      · rw [decide_eq_false hi]
        rw [decide_eq_false (fun z => hi z.1)] at q
        exact iteT q
    obtain ⟨dx, aw, an, ad, am, rfl, g1, g2, _, _, ⟨ms, g5, g5'⟩⟩ := L.ex
    refine ⟨rfl, rfl, ?_⟩
    by_cases hb : here l i m
    rotate_left
    · rw [decide_eq_false hb]
      rw [next_no hb] at k
      exact iteT ⟨(by show 1 ≤ sizeLine; decide), fun q hq => k _ q (Same.new hq) ⟨hq, upd_same⟩⟩
    rw [decide_eq_true hb]
    rw [next_yes hb] at k
    have hn := B.fit.nm
    have hm := hb.2
    refine iteF ⟨_, rfl, pb, CB, dxb, _, _, rfl, b1, C.cB, C.bL, lk_log, pl, CL, dx, _, _, rfl, g1, C.cL, C.nM, lk_m, ?_⟩
    refine ⟨_, rfl, _, _, rfl, rfl, _, rfl, am, _, rfl, .inl (SqL.of g5), (m : Int) + 1, ((Rg.moments l).length : Int), (by rw [List.length_map, g5'.length, momsOf_length]), ⟨by omega, by omega, by omega, by omega⟩, ?_⟩
    have en : (((Rg.moments l).length : Int) - ((m : Int) + 1)).toNat = (Rg.moments l).length - (m + 1) := by omega
    rw [en]
    refine for_range (lo := (m : Int) + 1) (n := (Rg.moments l).length - (m + 1))
      (fun j σ H' => ∃ v4 v5 : Option V, σ = [some (.ref pb), some (.int (i : Int)), some (.int (m : Int)), some (.ref am), v4, v5] ∧ Same H H' ∧ ∀ j', m + 1 ≤ j' → j' < m + 1 + j → (Rg.changeAt l i j' != 0) = false)
      ⟨none, none, rfl, Same.refl _, fun j' a b => by omega⟩ ?_ ?_
    · rintro j σ H' hj ⟨v4, v5, rfl, s5, hno⟩
      have B5 := B.same s5
      obtain ⟨a0, mo0, h0, t0, x1, x2, x3, x4, x5, _, x6, x7⟩ := B5.at (Off.sub.trans s5) g5' (i := i) (m := m + j) ⟨hb.1, by omega⟩
      obtain ⟨a1, mo1, h1', t1, y1, y2, y3, y4, y5, _, y6, y7⟩ := B5.at (Off.sub.trans s5) g5' (i := i) (m := m + j + 1) ⟨hb.1, by omega⟩
      obtain ⟨dm, _, _, _, f1, _⟩ := y2.ex
      refine ⟨_, rfl, _, rfl, am, _, _, V.ref a1, rfl, rfl, SqL.of (s5 _ _ g5), at_of (j := m + j + 1) (by show (m : Int) + 1 + (j : Nat) = _; omega) (by rw [List.getElem?_map, y1]; rfl), a1, dm, _, rfl, f1, rfl,
        _, rfl, _, rfl, _, _, rfl, rfl, am, _, _, V.ref a0, rfl, rfl, SqL.of (s5 _ _ g5), at_of (j := m + j) (by show (m : Int) + 1 + (j : Nat) - 1 = _; omega) (by rw [List.getElem?_map, x1]; rfl), _, rfl,
        a1, a0, i, mo0, mo1, h0, h1', t0, t1, rfl, y2, x2, x3, y3, x4, y4, x5, y5, fun H6 s6 => ?_⟩
      refine ⟨_, rfl, rfl, _, rfl, ?_⟩
      have s56 := s5.trans s6
      rcases changeV_eq x7 y7 x6 y6 with ⟨c0, c1⟩ | ⟨c0, c1⟩
      · rw [c1]
        refine iteF ⟨_, _, rfl, s56, fun j' q1 q2 => ?_⟩
        by_cases hj' : j' < m + 1 + j
        · exact hno j' q1 hj'
        · have e : j' = m + j + 1 := by omega
          rw [e, c0]
          rfl
      · rw [c1]
        have hf : Rg.firstFrom (m + 1) (Rg.moments l).length (fun (k : Nat) => Rg.changeAt l i k != 0) = some (m + j + 1) :=
          firstFrom_here (by omega) (by omega) (fun j' q1 q2 => hno j' q1 (by omega)) (bne_iff_ne.mpr c0)
        rw [hf] at k
        refine iteT ⟨_, rfl, _, rfl, (by show 3 ≤ sizeLine; decide), fun q hq => k _ q (s56.trans (Same.new hq)) ⟨s56.free hq, ?_⟩⟩
        rw [upd_same, show (m : Int) + 1 + (j : Nat) = ((m + j + 1 : Nat) : Int) by omega]
        rfl
    · rintro σ H' ⟨v4, v5, rfl, s5, hno⟩
      rw [firstFrom_none (fun j' q1 q2 => hno j' q1 (by omega))] at k
      exact ⟨(by show 1 ≤ sizeLine; decide), fun q hq => k _ q (s5.trans (Same.new hq)) ⟨s5.free hq, upd_same⟩⟩
end
end Bl
end
section
set_option maxHeartbeats 2000000
namespace Bl
open PySem PySem.Spec PyProof.Rows L2
theorem refs_of {β : Type} {Rel : β → Addr → Prop} : ∀ (zs : List V) (xs : List β), zs.length = xs.length → (∀ (k : Nat) (y : V) (x : β), zs[k]? = some y → xs[k]? = some x → ∃ q, y = V.ref q ∧ Rel x q) → ∃ as : List Addr, zs = as.map V.ref ∧ Paired (fun a x => Rel x a) as xs
  | [], [], _, _ => ⟨[], rfl, .nil⟩
  | [], _ :: _, h, _ => by simp at h
  | _ :: _, [], h, _ => by simp at h
  | z :: zs, x :: xs, h, f => by
    obtain ⟨as, e, p⟩ := refs_of zs xs (by simpa using h) (fun k y x' e1 e2 => f (k + 1) y x' (by simpa using e1) (by simpa using e2))
    obtain ⟨q, e1, e2⟩ := f 0 z x rfl rfl
    exact ⟨q :: as, by rw [e1, e]; rfl, .cons e2 p⟩
theorem LcInv.refs {β : Type} {Rel : β → Addr → Prop} {H1 H : Hp} {D : Addr} {R : Nat → V → Hp → Prop} {n : Nat} (h : LcInv H1 D R n H) {xs : List β} (hl : xs.length = n) (hr : ∀ k y x, xs[k]? = some x → R k y (Off [D] H) → ∃ q, y = .ref q ∧ Rel x q) : RefsAt H Rel xs D := by
  obtain ⟨⟨ys, h1, h2, h3⟩, _⟩ := h
  obtain ⟨as, e, p⟩ := refs_of (Rel := Rel) ys xs (by omega) (fun k y x e1 e2 => hr k y x e2 (h3 k y e1))
  exact ⟨as, by rw [h1, e], p⟩
theorem off_pt {D q : Addr} {H H4 : Hp} {p : Rg.Pt} (hD : ∃ acc, H D = some (.lst acc)) (s : Same H H4) (h : PtAt H4 p q) : PtAt (Off [D] H4) p q := by
  obtain ⟨acc, e⟩ := hD
  refine Off.mk h ?_
  intro z
  have z' := List.mem_singleton.mp z
  have e4 := s _ _ e
  have h' : H4 q = some _ := h
  rw [z', e4] at h'
  cases h'
def spR3 (CB CL CM : Addr) (ans : Rg.Log → Nat → Nat → Nat → List Int) : Sp := fun vs H Q _ => ∃ (pb : Addr) (S : List Addr) (l : Rg.Log) (i j m : Nat), vs = [.ref pb, .int (i : Int), .int (j : Int), .int (m : Int)] ∧ BookAt CB CL CM S H pb l ∧ ∀ (H' : Hp) (q : Addr), Same H H' → AnsAt H H' (ans l i j m) q → Q (.ref q) H'
theorem round_wrong {l : Rg.Log} {i m k : Nat} (h : k < m) : ansOf (Wqatcu.told l (.round i m k)) = [-8] := by
  show ansOf (if k < m then _ else _) = _
  rw [if_pos h]
  rfl
theorem round_no {l : Rg.Log} {i m k : Nat} (h : ¬ k < m) (hb : ¬ here l i k) : ansOf (Wqatcu.told l (.round i m k)) = [-4] := by
  show ansOf (if k < m then _ else if Wqatcu.there l i k = false then _ else _) = _
  rw [if_neg h, if_pos ((there_iff l i k).mpr hb)]
  rfl
theorem round_yes {l : Rg.Log} {i m k : Nat} (h : ¬ k < m) (hb : here l i k) : ansOf (Wqatcu.told l (.round i m k)) = [0, Rg.rounds l i m k] := by
  show ansOf (if k < m then _ else if Wqatcu.there l i k = false then _ else _) = _
  rw [if_neg h, if_neg (fun z => (there_iff l i k).mp z hb)]
  rfl
theorem trackLen {l : Rg.Log} (F : Fit l) {i : Nat} (hi : i < (Rg.boats l).length) : (Rg.track l i).length = (Rg.moments l).length := by
  rcases Nat.lt_trichotomy (Rg.track l i).length (Rg.moments l).length with h | h | h
  · obtain ⟨_, _, _, _, _, _, _, _, e, _⟩ := moms_get F hi h
    have := (List.getElem?_eq_some_iff.mp e).1
    omega
  · exact h
  · have := (track_out F (i := i) (m := (Rg.moments l).length) (fun z => absurd z.2 (Nat.lt_irrefl _))).1
    rw [List.getElem?_eq_none_iff] at this
    omega
section
variable {P : Program} {w : World} {K : PySem.W.Frag} {mg : Str → Option Value} {base : Heap} {CL CM CB : Addr}
theorem sc_round : FnScope ["self", "i", "m", "k", "moment"] ["self", "i", "m", "k"] (defScope s_Book_rounds_made) := ⟨rfl, rfl, rfl, by decide +kernel, rfl, by decide +kernel, by decide +kernel⟩
theorem ok_round (F : FunM K CB "rounds_made" "Book.rounds_made" s_Book_rounds_made ["self", "i", "m", "k"]) (T : Txt mg) (C : Cs K CL CM CB) (OB : OkM P w K mg base CB 1 "has_boat" ["self", "i"] (spHas CB CL CM fun l => (Rg.boats l).length)) (OM : OkM P w K mg base CB 1 "has_moment" ["self", "m"] (spHas CB CL CM fun l => (Rg.moments l).length))
    (OR : Ok P w K mg base 4 "rounds" ["courses"] spRounds) (OH : Ok P w K mg base 2 "heading" ["hull"] spHeading) : OkM P w K mg base CB 5 "rounds_made" ["self", "i", "m", "k"] (spR3 CB CL CM fun l i m k => ansOf (Wqatcu.told l (.round i m k))) := by
  refine F.ok sc_round (fun vs H Q E h => ?_) (fun f cdv A outer s H vs Q E hr h => ?_)
  · obtain ⟨pb, S, l, i, j, m, rfl, _⟩ := h
    rfl
  · obtain ⟨pb, S, l, i, m, n, rfl, B, k⟩ := h
    replace k : ∀ (H' : Hp) (q : Addr), Same H H' → AnsAt H H' (ansOf (Wqatcu.told l (.round i m n))) q → Q (.ref q) H' := k
    have h1 := hr.mono (show 1 ≤ 4 by decide)
    have h2 := hr.mono (show 2 ≤ 4 by decide)
    refine ⟨_, pss_cons (ps_if (pt_cmpR op_lt (pv 3) (pv 2) (nomark _)) (pss_one (ps_ret (pe_lst (pa_cons (pe_gi T.c_WRONG) pa_nil)))) pss_nil)
      (pss_cons (ps_if (pt_imp (t' := fun σ H' Q' => σ = [some (.ref pb), some (.int (i : Int)), some (.int (m : Int)), some (.int (n : Int)), none] ∧ H' = H ∧ Q' (!decide (here l i n)) H)
          (pw_or (pt_not (pt_val (pe_mt C.cB OB h1 (pv 0) (pa_cons (pv 1) pa_nil)))) (pw_or1 (pt_not (pt_val (pe_mt C.cB OM h1 (pv 0) (pa_cons (pv 3) pa_nil)))))).pt ?c1) (pss_one (ps_ret (pe_lst (pa_cons (pe_gi T.c_NO_SUCH) pa_nil)))) pss_nil)
      (pss_one (ps_ret (pe_lst (pa_cons (pe_gi T.c_DONE) (pa_cons (pe_fn OR hr (pa_cons (pe_lc (own := [("moment", 4)]) rfl sc_round.nd (pi_list (pe_slice sl_list (pe_fld (pe_fld (pv 0) rfl) rfl) (po_some (pv 2)) (po_some (pe_op op_add (pv 3) pe_int))))
        (blkOk_by (N := ["self", "i", "m", "k", "moment"]) (sc := defScope s_Book_rounds_made) (by decide +kernel)) (fun _ _ _ _ _ => pg_name (i := 4) sc_round.nd rfl (Or.inl rfl)) (fun _ _ _ _ _ => pts_nil)
        (fun _ _ _ _ _ => pe_fn OH h2 (pa_cons (pe_ix (ix_listK (K := K) rfl) (pe_fldK (K := K) rfl (pv 4) rfl) (pv 1) (fun _ _ => rfl)) pa_nil))) pa_nil)) pa_nil)))))), ?_⟩
    all_goals obtain ⟨dxb, pl, M, b1, L⟩ := B.ex
    case c1 =>
      rintro σ H' Q' ⟨rfl, rfl, q⟩
      refine ⟨_, rfl, pb, dxb, _, rfl, b1, rfl, _, rfl, pb, S, l, i, rfl, B, _, rfl, ?_⟩
      by_cases hi : i < (Rg.boats l).length
      · rw [decide_eq_true hi]
        refine iteF ⟨_, rfl, pb, dxb, _, rfl, b1, rfl, _, rfl, pb, S, l, n, rfl, B, _, rfl, ?_⟩
        rw [show decide (here l i n) = decide (n < (Rg.moments l).length) by congr 1; exact propext ⟨fun z => z.2, fun z => ⟨hi, z⟩⟩] at q
        exact q
      · rw [decide_eq_false hi]
        rw [decide_eq_false (fun z => hi z.1)] at q
        exact iteT q
    obtain ⟨dx, aw, an, ad, am, rfl, g1, g2, _, _, ⟨ms, g5, g5'⟩⟩ := L.ex
    refine ⟨_, rfl, _, rfl, _, _, rfl, rfl, _, rfl, ?_⟩
    by_cases hnm : n < m
    · rw [decide_eq_true (show (n : Int) < (m : Int) by omega)]
      rw [round_wrong hnm] at k
      exact iteT ⟨(by show 1 ≤ sizeLine; decide), fun q hq => k _ q (Same.new hq) ⟨hq, upd_same⟩⟩
    rw [decide_eq_false (show ¬ (n : Int) < (m : Int) by omega)]
    refine iteF ⟨rfl, rfl, ?_⟩
    by_cases hb : here l i n
    rotate_left
    · rw [decide_eq_false hb]
      rw [round_no hnm hb] at k
      exact iteT ⟨(by show 1 ≤ sizeLine; decide), fun q hq => k _ q (Same.new hq) ⟨hq, upd_same⟩⟩
    rw [decide_eq_true hb]
    rw [round_yes hnm hb] at k
    have hn := B.fit.nm
    have hm := hb.2
    have tl := trackLen B.fit hb.1
    have ml : ms.length = (Rg.moments l).length := by rw [g5'.length, momsOf_length]
    refine iteF ⟨_, rfl, pb, CB, dxb, _, _, rfl, b1, C.cB, C.bL, lk_log, pl, CL, dx, _, _, rfl, g1, C.cL, C.nM, lk_m, _, rfl, _, rfl, _, rfl, _, _, rfl, rfl, _, rfl, am, _, rfl, SqL.of g5, fun p hp => ?_⟩
    have ec : cutV (ms.map V.ref) (some (m : Int)) (some ((n : Int) + 1)) = ((ms.map V.ref).drop m).take (n + 1 - m) := by
      have := cut_mid (ms.map V.ref) m (n + 1) (by omega) (by rw [List.length_map]; omega)
      rw [← this]
      rfl
    rw [ec]
    have s1 := Same.new (o := .lst (((ms.map V.ref).drop m).take (n + 1 - m))) hp
    have e1 : (upd H p (.lst (((ms.map V.ref).drop m).take (n + 1 - m)))) p = some (.lst (((ms.map V.ref).drop m).take (n + 1 - m))) := upd_same
    generalize upd H p (.lst (((ms.map V.ref).drop m).take (n + 1 - m))) = H1 at s1 e1 ⊢
    have lenc : (((ms.map V.ref).drop m).take (n + 1 - m)).length = n + 1 - m := by rw [List.length_take, List.length_drop, List.length_map]; omega
    refine ⟨p, rfl, ⟨_, SqL.of e1⟩, fun D hD => lc_map (R := fun j y G => ∃ (q : Addr) (x : Rg.Pt × Rg.Hull), y = .ref q ∧ (Rg.track l i)[m + j]? = some x ∧ PtAt G x.2.heading q ∧ HullOk x.2) (fun _ _ _ _ s ⟨q, x, a1, a2, a3, a4⟩ => ⟨q, x, a1, a2, a3.same s, a4⟩) hD e1 (by rw [lenc]; omega) (fun _ => rfl) ?_ ?_⟩
    · rintro j x hx H2 Q2 s2 hacc q2
      have hj : j < n + 1 - m := by
        have := (List.getElem?_eq_some_iff.mp hx).1
        omega
      rw [List.getElem?_take, if_pos hj, List.getElem?_drop, List.getElem?_map] at hx
      have s12 := s1.trans s2
      obtain ⟨a0, mo0, h0, t0, x1, x2, x3, x4, x5, _, x6, x7⟩ := (B.same s12).at (Off.sub.trans s12) g5' (i := i) (m := m + j) ⟨hb.1, by omega⟩
      rw [x1] at hx
      have ex : V.ref a0 = x := Option.some.inj hx
      subst ex
      obtain ⟨dm, ah, au, at_, f1, ⟨hs, f2, f2'⟩, _⟩ := x2.ex
      obtain ⟨c, ec', rc⟩ := paired_get f2' x3
      exact ⟨_, rfl, a0, CM, dm, _, _, rfl, f1, C.cM, C.mH, lk_h, _, rfl, ah, _, _, V.ref c, rfl, rfl, SqL.of f2, atI_nat (by rw [List.getElem?_map, ec']; rfl), c, h0, rfl, rc, fun H4 q s4 hq => q2 _ _ s4 ⟨q, _, rfl, x6, off_pt hacc s4 hq, x5⟩⟩
    · intro H3 hI
      rw [lenc] at hI
      have hl : ((((Rg.track l i).drop m).take (n + 1 - m)).map fun (x : Rg.Pt × Rg.Hull) => x.2.heading).length = n + 1 - m := by
        rw [List.length_map, List.length_take, List.length_drop]; omega
      have hget : ∀ (j : Nat) (pt : Rg.Pt), ((((Rg.track l i).drop m).take (n + 1 - m)).map fun (x : Rg.Pt × Rg.Hull) => x.2.heading)[j]? = some pt → ∃ x : Rg.Pt × Rg.Hull, (Rg.track l i)[m + j]? = some x ∧ pt = x.2.heading := by
        intro j pt e
        have hj : j < n + 1 - m := by
          have := (List.getElem?_eq_some_iff.mp e).1
          omega
        rw [List.getElem?_map, List.getElem?_take, if_pos hj, List.getElem?_drop] at e
        cases et : (Rg.track l i)[m + j]? with
        | none => rw [et] at e; cases e
        | some x => rw [et] at e; exact ⟨x, rfl, (Option.some.inj e).symm⟩
      have R3 := hI.refs (Rel := PtAt H3) hl (fun j y pt e ⟨q, x, a1, a2, a3, a4⟩ => by
        obtain ⟨x', b1', b2'⟩ := hget j pt e
        rw [a2] at b1'
        cases b1'
        exact ⟨q, a1, by rw [b2']; exact a3.same Off.sub⟩)
      have hsm : ∀ c ∈ ((((Rg.track l i).drop m).take (n + 1 - m)).map fun (x : Rg.Pt × Rg.Hull) => x.2.heading), PtSm c := by
        intro c hc
        obtain ⟨j, hj⟩ := List.mem_iff_getElem?.mp hc
        obtain ⟨⟨ys, z1, z2, z3⟩, _⟩ := hI
        have hj' := (List.getElem?_eq_some_iff.mp hj).1
        obtain ⟨q, x, a1, a2, a3, a4⟩ := z3 j _ (List.getElem?_eq_getElem (show j < ys.length by omega))
        obtain ⟨x', b1', b2'⟩ := hget j c hj
        rw [a2] at b1'
        cases b1'
        rw [b2']
        exact head_small a4.b a4.s
      unfold Rg.rounds at k
      generalize ((((Rg.track l i).drop m).take (n + 1 - m)).map fun (x : Rg.Pt × Rg.Hull) => x.2.heading) = hs at *
      cases hs with
      | nil => simp at hl; omega
      | cons r cs =>
        rw [List.length_cons] at hl
        refine ⟨D, r, cs, rfl, R3, hsm, by omega, fun H4 s4 => ⟨(by show 2 ≤ sizeLine; decide), fun q hq => ?_⟩⟩
        have s14 := s1.trans (hI.same.trans s4)
        exact k _ q (s14.trans (Same.new hq)) ⟨s14.free hq, upd_same⟩
def spFar : Sp := fun vs H Q _ => ∃ (a : Addr) (p : Rg.Pt), vs = [.ref a] ∧ PtAt H p a ∧ Q (.bl (!p.ok)) H
theorem sc_far : FnScope ["place"] ["place"] (defScope s_is_too_far) := ⟨rfl, rfl, rfl, by decide +kernel, rfl, by decide +kernel, by decide +kernel⟩
theorem far_iff (z : Int) : (1048576 : Int) < (if z < 0 then -z else z) ↔ ¬ z.natAbs ≤ 1048576 := by
  split <;> omega
theorem ok_far (F : FunG K mg "is_too_far" s_is_too_far ["place"]) (T : Txt mg) : Ok P w K mg base 1 "is_too_far" ["place"] spFar := by
  refine F.ok sc_far (fun vs H Q E h => ?_) (fun f cdv A outer s H vs Q E hr h => ?_)
  · obtain ⟨a, p, rfl, _⟩ := h
    rfl
  · obtain ⟨a, p, rfl, hp, k⟩ := h
    refine ⟨_, pss_one (ps_ret (pe_or (pe_cmpR op_gt (pe_callB call_abs (by rfl) T.b_abs boot_abs (pa_cons (pe_ix ix_tup (pv 0) pe_int (fun _ _ => rfl)) pa_nil)) (pe_gi T.c_FARTHEST) (nomark _))
      (pe_one (pe_cmpR op_gt (pe_callB call_abs (by rfl) T.b_abs boot_abs (pa_cons (pe_ix ix_tup (pv 0) pe_int (fun _ _ => rfl)) pa_nil)) (pe_gi T.c_FARTHEST) (nomark _))))), ?_⟩
    unfold Rg.Pt.ok Rg.FAR at k
    refine ⟨_, rfl, a, _, _, _, rfl, rfl, SqT.of hp, rfl, _, rfl, _, _, rfl, rfl, _, rfl, ?_⟩
    by_cases h1 : p.x.natAbs ≤ 1048576
    · rw [decide_eq_true h1, Bool.true_and] at k
      rw [decide_eq_false (fun z => (far_iff p.x).mp z h1)]
      refine iteF ⟨_, rfl, a, _, _, _, rfl, rfl, SqT.of hp, rfl, _, rfl, _, _, rfl, rfl, ?_⟩
      by_cases h2 : p.y.natAbs ≤ 1048576
      · rw [decide_eq_true h2] at k
        show Q (.bl (decide ((1048576 : Int) < if p.y < 0 then -p.y else p.y))) H
        rw [decide_eq_false (fun z => (far_iff p.y).mp z h2)]
        exact k
      · rw [decide_eq_false h2] at k
        show Q (.bl (decide ((1048576 : Int) < if p.y < 0 then -p.y else p.y))) H
        rw [decide_eq_true ((far_iff p.y).mpr h2)]
        exact k
    · rw [decide_eq_false h1, Bool.false_and] at k
      rw [decide_eq_true ((far_iff p.x).mpr h1)]
      exact iteT k
def whichI (a b : Bool) : Int := (if a = true then 1 else 0) + (if b = true then 2 else 0)
def spWhich : Sp := fun vs H Q _ => ∃ (a b : Bool), vs = [.bl a, .bl b] ∧ Q (.int (whichI a b)) H
theorem sc_which : FnScope ["first", "second"] ["first", "second"] (defScope s_which) := ⟨rfl, rfl, rfl, by decide +kernel, rfl, by decide +kernel, by decide +kernel⟩
theorem ok_which (F : FunG K mg "which" s_which ["first", "second"]) : Ok P w K mg base 1 "which" ["first", "second"] spWhich := by
  refine F.ok sc_which (fun vs H Q E h => ?_) (fun f cdv A outer s H vs Q E hr h => ?_)
  · obtain ⟨a, b, rfl, _⟩ := h
    rfl
  · obtain ⟨a, b, rfl, k⟩ := h
    refine ⟨_, pss_one (ps_ret (pe_op op_add (pe_ifExp (pt_val (pv 0)) pe_int pe_int) (pe_ifExp (pt_val (pv 1)) pe_int pe_int))), ?_⟩
    refine ⟨_, rfl, _, rfl, ?_⟩
    cases a with
    | true =>
      refine iteT ⟨_, rfl, _, rfl, ?_⟩
      cases b with
      | true => exact iteT ⟨_, _, rfl, rfl, k⟩
      | false => exact iteF ⟨_, _, rfl, rfl, k⟩
    | false =>
      refine iteF ⟨_, rfl, _, rfl, ?_⟩
      cases b with
      | true => exact iteT ⟨_, _, rfl, rfl, k⟩
      | false => exact iteF ⟨_, _, rfl, rfl, k⟩
end
end Bl
end
section
set_option maxHeartbeats 2000000
namespace Bl
open PySem PySem.Spec PyProof.Rows L2
theorem track_none2 {l : Rg.Log} (F : Fit l) {i m : Nat} (h : ¬ here l i m) : (Rg.track l i)[m]? = none := (track_out F h).1
theorem pair_wrong {l : Rg.Log} {i j m : Nat} (h : i = j) : ansOf (Wqatcu.told l (.pair i j m)) = [-8] := by
  show ansOf (if i = j then _ else _) = _
  rw [if_pos h]
  rfl
theorem pair_no {l : Rg.Log} (F : Fit l) {i j m : Nat} (h : ¬ i = j) (hb : ¬ (here l i m ∧ here l j m)) : ansOf (Wqatcu.told l (.pair i j m)) = [-4] := by
  show ansOf (if i = j then _ else match (Rg.track l i)[m]?, (Rg.track l j)[m]? with | some x, some y => _ | _, _ => _) = _
  rw [if_neg h]
  by_cases hi : here l i m
  · rw [track_none2 F (fun z => hb ⟨hi, z⟩)]
    cases (Rg.track l i)[m]? <;> rfl
  · rw [track_none2 F hi]
    rfl
theorem pair_yes {l : Rg.Log} {i j m : Nat} {x y : Rg.Pt × Rg.Hull} (h : ¬ i = j) (e1 : (Rg.track l i)[m]? = some x) (e2 : (Rg.track l j)[m]? = some y) :
    ansOf (Wqatcu.told l (.pair i j m)) = [0, (Rg.place x.2 y.2 : Int), (Rg.lee x.2 y.2 x.1 : Int), if Rg.touch x.2 y.2 = true then 1 else 0] := by
  show ansOf (if i = j then _ else match (Rg.track l i)[m]?, (Rg.track l j)[m]? with | some x, some y => _ | _, _ => _) = _
  rw [if_neg h, e1, e2]
  rfl
theorem place_which (a b : Rg.Hull) : whichI (Rg.astern a b) (Rg.astern b a) = (Rg.place a b : Int) := by
  unfold whichI Rg.place
  cases Rg.astern a b <;> cases Rg.astern b a <;> rfl
theorem dot_anti (u a b : Rg.Pt) : Rg.dot u (a.sub b) = -Rg.dot u (b.sub a) := by
  unfold Rg.dot Rg.Pt.sub
  grind
theorem lee_which (a b : Rg.Hull) (u : Rg.Pt) : whichI (decide (0 < Rg.dot u ((b.bow.add b.stern).sub (a.bow.add a.stern)))) (decide (0 < Rg.dot u ((a.bow.add a.stern).sub (b.bow.add b.stern)))) = (Rg.lee a b u : Int) := by
  rw [dot_anti u (a.bow.add a.stern)]
  unfold whichI
  show _ = (((if 0 < Rg.dot u ((b.bow.add b.stern).sub (a.bow.add a.stern)) then 1 else if Rg.dot u ((b.bow.add b.stern).sub (a.bow.add a.stern)) < 0 then 2 else 0 : Nat)) : Int)
  generalize Rg.dot u ((b.bow.add b.stern).sub (a.bow.add a.stern)) = z
  by_cases h1 : 0 < z
  · rw [decide_eq_true h1, decide_eq_false (show ¬ 0 < -z by omega), if_pos h1]
    rfl
  · rw [decide_eq_false h1, if_neg h1]
    by_cases h2 : z < 0
    · rw [decide_eq_true (show 0 < -z by omega), if_pos h2]
      rfl
    · rw [decide_eq_false (show ¬ 0 < -z by omega), if_neg h2]
      rfl
theorem int_ne {i j : Nat} (h : ¬ i = j) : ¬ V.int (i : Int) = V.int (j : Int) := fun z => h (by have := V.int.inj z; omega)
section
variable {P : Program} {w : World} {K : PySem.W.Frag} {mg : Str → Option Value} {base : Heap} {CL CM CB : Addr}
theorem sc_pair : FnScope ["self", "i", "j", "m", "moment", "one", "other", "astern", "leeward"] ["self", "i", "j", "m"] (defScope s_Book_pair) := ⟨rfl, rfl, rfl, by decide +kernel, rfl, by decide +kernel, by decide +kernel⟩
theorem ok_pair (F : FunM K CB "pair" "Book.pair" s_Book_pair ["self", "i", "j", "m"]) (T : Txt mg) (C : Cs K CL CM CB) (OB : OkM P w K mg base CB 1 "has_boat" ["self", "i"] (spHas CB CL CM fun l => (Rg.boats l).length)) (OM : OkM P w K mg base CB 1 "has_moment" ["self", "m"] (spHas CB CL CM fun l => (Rg.moments l).length))
    (OW : Ok P w K mg base 1 "which" ["first", "second"] spWhich) (OA : Ok P w K mg base 4 "is_clear_astern" ["one", "other"] spAstern) (OL : Ok P w K mg base 3 "is_to_leeward" ["one", "other", "wind"] spLee) (OT : Ok P w K mg base 4 "do_touch" ["one", "other"] spTouch) :
    OkM P w K mg base CB 5 "pair" ["self", "i", "j", "m"] (spR3 CB CL CM fun l i j m => ansOf (Wqatcu.told l (.pair i j m))) := by
  refine F.ok sc_pair (fun vs H Q E h => ?_) (fun f cdv A outer s H vs Q E hr h => ?_)
  · obtain ⟨pb, S, l, i, j, m, rfl, _⟩ := h
    rfl
  · obtain ⟨pb, S, l, i, j, m, rfl, B, k⟩ := h
    replace k : ∀ (H' : Hp) (q : Addr), Same H H' → AnsAt H H' (ansOf (Wqatcu.told l (.pair i j m))) q → Q (.ref q) H' := k
    have h1 := hr.mono (show 1 ≤ 4 by decide)
    have h3 := hr.mono (show 3 ≤ 4 by decide)
    refine ⟨_, pss_cons (ps_if (pt_cmpR op_eq (pv 1) (pv 2) (nomark _)) (pss_one (ps_ret (pe_lst (pa_cons (pe_gi T.c_WRONG) pa_nil)))) pss_nil)
      (pss_cons (ps_if (pt_imp (t' := fun σ H' Q' => σ = [some (.ref pb), some (.int (i : Int)), some (.int (j : Int)), some (.int (m : Int)), none, none, none, none, none] ∧ H' = H ∧ Q' (!decide (here l i m ∧ here l j m)) H)
          (pw_or (pt_not (pt_val (pe_mt C.cB OB h1 (pv 0) (pa_cons (pv 1) pa_nil)))) (pw_or (pt_not (pt_val (pe_mt C.cB OB h1 (pv 0) (pa_cons (pv 2) pa_nil)))) (pw_or1 (pt_not (pt_val (pe_mt C.cB OM h1 (pv 0) (pa_cons (pv 3) pa_nil))))))).pt ?c1) (pss_one (ps_ret (pe_lst (pa_cons (pe_gi T.c_NO_SUCH) pa_nil)))) pss_nil)
      (pss_cons (ps_set (i := 4) sc_pair.nd rfl (Or.inl rfl) (pe_ix ix_list (pe_fld (pe_fld (pv 0) rfl) rfl) (pv 3) (fun _ _ => rfl)))
      (pss_cons (ps_set (i := 5) sc_pair.nd rfl (Or.inl rfl) (pe_ix ix_list (pe_fld (pv 4) rfl) (pv 1) (fun _ _ => rfl)))
      (pss_cons (ps_set (i := 6) sc_pair.nd rfl (Or.inl rfl) (pe_ix ix_list (pe_fld (pv 4) rfl) (pv 2) (fun _ _ => rfl)))
      (pss_cons (ps_set (i := 7) sc_pair.nd rfl (Or.inl rfl) (pe_fn OW h1 (pa_cons (pe_fn OA hr (pa_cons (pv 5) (pa_cons (pv 6) pa_nil))) (pa_cons (pe_fn OA hr (pa_cons (pv 6) (pa_cons (pv 5) pa_nil))) pa_nil))))
      (pss_cons (ps_set (i := 8) sc_pair.nd rfl (Or.inl rfl) (pe_fn OW h1 (pa_cons (pe_fn OL h3 (pa_cons (pv 6) (pa_cons (pv 5) (pa_cons (pe_fld (pv 4) rfl) pa_nil)))) (pa_cons (pe_fn OL h3 (pa_cons (pv 5) (pa_cons (pv 6) (pa_cons (pe_fld (pv 4) rfl) pa_nil)))) pa_nil))))
      (pss_one (ps_ret (pe_lst (pa_cons (pe_gi T.c_DONE) (pa_cons (pv 7) (pa_cons (pv 8) (pa_cons (pe_ifExp (pt_val (pe_fn OT hr (pa_cons (pv 5) (pa_cons (pv 6) pa_nil)))) pe_int pe_int) pa_nil))))))))))))), ?_⟩
    all_goals obtain ⟨dxb, pl, M, b1, L⟩ := B.ex
    case c1 =>
      rintro σ H' Q' ⟨rfl, rfl, q⟩
      refine ⟨_, rfl, pb, dxb, _, rfl, b1, rfl, _, rfl, pb, S, l, i, rfl, B, _, rfl, ?_⟩
      by_cases hi : i < (Rg.boats l).length
      · rw [decide_eq_true hi]
        refine iteF ⟨_, rfl, pb, dxb, _, rfl, b1, rfl, _, rfl, pb, S, l, j, rfl, B, _, rfl, ?_⟩
        by_cases hj : j < (Rg.boats l).length
        · rw [decide_eq_true hj]
          refine iteF ⟨_, rfl, pb, dxb, _, rfl, b1, rfl, _, rfl, pb, S, l, m, rfl, B, _, rfl, ?_⟩
          rw [show decide (here l i m ∧ here l j m) = decide (m < (Rg.moments l).length) by congr 1; exact propext ⟨fun z => z.1.2, fun z => ⟨⟨hi, z⟩, hj, z⟩⟩] at q
          exact q
        · rw [decide_eq_false hj]
          rw [decide_eq_false (fun z => hj z.2.1)] at q
          exact iteT q
      · rw [decide_eq_false hi]
        rw [decide_eq_false (fun z => hi z.1.1)] at q
        exact iteT q
    obtain ⟨dx, aw, an, ad, am, rfl, g1, g2, _, _, ⟨ms, g5, g5'⟩⟩ := L.ex
    refine ⟨_, rfl, _, rfl, rfl, _, rfl, ?_⟩
    by_cases hij : i = j
    · rw [decide_eq_true (show V.int (i : Int) = V.int (j : Int) by rw [hij])]
      rw [pair_wrong hij] at k
      exact iteT ⟨(by show 1 ≤ sizeLine; decide), fun q hq => k _ q (Same.new hq) ⟨hq, upd_same⟩⟩
    rw [decide_eq_false (int_ne hij)]
    refine iteF ⟨rfl, rfl, ?_⟩
    by_cases hb : here l i m ∧ here l j m
    rotate_left
    · rw [decide_eq_false hb]
      rw [pair_no B.fit hij hb] at k
      exact iteT ⟨(by show 1 ≤ sizeLine; decide), fun q hq => k _ q (Same.new hq) ⟨hq, upd_same⟩⟩
    rw [decide_eq_true hb]
    obtain ⟨a0, mo, hI, tI, x1, x2, x3, x4, x5, x8, x6, x7⟩ := B.at Off.sub g5' hb.1
    obtain ⟨a0', mo', hJ, tJ, y1, y2, y3, y4, y5, _, y6, y7⟩ := B.at Off.sub g5' hb.2
    obtain ⟨dm, ah, au, at_, f1, ⟨hs, f2, f2'⟩, f3, f4⟩ := x2.ex
    have ea : a0 = a0' := by rw [x1] at y1; exact Option.some.inj y1
    subst ea
    obtain ⟨dm', ah', au', at', f1'', ⟨hs', f2'', f2'''⟩, _, _⟩ := y2.ex
    rw [f1] at f1''
    have eh : ah = ah' := by
      have := Option.some.inj f1''
      injection this with _ _ e3
      have e4 := List.cons.inj e3
      have e5 := congrArg Prod.snd e4.1
      exact V.ref.inj e5
    subst eh
    rw [f2] at f2''
    have ehs : hs = hs' := by
      have := Option.some.inj f2''
      injection this with e
      have inj : ∀ {a b : List Addr}, a.map V.ref = b.map V.ref → a = b := by
        intro a
        induction a with
        | nil => intro b h; cases b with | nil => rfl | cons _ _ => cases h
        | cons u v ih => intro b h; cases b with | nil => cases h | cons u' v' => rw [List.map_cons, List.map_cons] at h; obtain ⟨p1, p2⟩ := List.cons.inj h; rw [V.ref.inj p1, ih p2]
      exact inj e
    subst ehs
    obtain ⟨c, ec, rc⟩ := paired_get f2' x3
    obtain ⟨d, ed, rd⟩ := paired_get f2''' y3
    rw [pair_yes hij x6 y6] at k
    refine iteF ⟨_, rfl, pb, CB, dxb, _, _, rfl, b1, C.cB, C.bL, lk_log, pl, CL, dx, _, _, rfl, g1, C.cL, C.nM, lk_m, _, rfl, am, _, _, V.ref a0, rfl, rfl, SqL.of g5, atI_nat (by rw [List.getElem?_map, x1]; rfl), ?_⟩
    refine ⟨_, rfl, a0, CM, dm, _, _, rfl, f1, C.cM, C.mH, lk_h, _, rfl, ah, _, _, V.ref c, rfl, rfl, SqL.of f2, atI_nat (by rw [List.getElem?_map, ec]; rfl), ?_⟩
    refine ⟨_, rfl, a0, CM, dm, _, _, rfl, f1, C.cM, C.mH, lk_h, _, rfl, ah, _, _, V.ref d, rfl, rfl, SqL.of f2, atI_nat (by rw [List.getElem?_map, ed]; rfl), ?_⟩
    refine ⟨_, rfl, _, rfl, c, d, hI, hJ, rfl, rc, rd, y5, fun H1 s1 => ⟨_, rfl, _, rfl, d, c, hJ, hI, rfl, rd.same s1, rc.same s1, x5, fun H2 s2 => ⟨_, _, rfl, ?_⟩⟩⟩
    have s12 := s1.trans s2
    refine ⟨_, rfl, _, rfl, _, rfl, a0, CM, dm, _, _, rfl, s12 _ _ f1, C.cM, C.mW, lk_u, d, c, au, hJ, hI, _, rfl, rd.same s12, rc.same s12, f3.same s12, x8, fun H3 s3 => ?_⟩
    have s13 := s12.trans s3
    refine ⟨_, rfl, _, rfl, _, rfl, a0, CM, dm, _, _, rfl, s13 _ _ f1, C.cM, C.mW, lk_u, c, d, au, hI, hJ, _, rfl, rc.same s13, rd.same s13, f3.same s13, x8, fun H4 s4 => ⟨_, _, rfl, ?_⟩⟩
    have s14 := s13.trans s4
    rw [place_which, lee_which]
    refine ⟨_, rfl, _, rfl, _, rfl, _, rfl, c, d, hI, hJ, rfl, rc.same s14, rd.same s14, x5, y5, fun H5 s5 => ⟨_, rfl, ?_⟩⟩
    have s15 := s14.trans s5
    cases et : Rg.touch hI hJ with
    | true =>
      rw [et] at k
      refine iteT ⟨(by show 4 ≤ sizeLine; decide), fun q hq => k _ q (s15.trans (Same.new hq)) ⟨s15.free hq, upd_same⟩⟩
    | false =>
      rw [et] at k
      refine iteF ⟨(by show 4 ≤ sizeLine; decide), fun q hq => k _ q (s15.trans (Same.new hq)) ⟨s15.free hq, upd_same⟩⟩
end
end Bl
end
section
set_option maxHeartbeats 2000000
namespace Bl
open PySem PySem.Spec PyProof.Rows L2
theorem zone_wrong {l : Rg.Log} {i m n : Nat} {c : Rg.Pt} (h : c.ok = false ∨ 64 < n) : ansOf (Wqatcu.told l (.zone i m c n)) = [-8] := by
  show ansOf (if c.ok = false ∨ 64 < n then _ else _) = _
  rw [if_pos h]
  rfl
theorem zone_no {l : Rg.Log} (F : Fit l) {i m n : Nat} {c : Rg.Pt} (h : ¬ (c.ok = false ∨ 64 < n)) (hb : ¬ here l i m) : ansOf (Wqatcu.told l (.zone i m c n)) = [-4] := by
  show ansOf (if c.ok = false ∨ 64 < n then _ else match (Rg.track l i)[m]? with | some x => _ | none => _) = _
  rw [if_neg h, track_none2 F hb]
  rfl
theorem zone_yes {l : Rg.Log} {i m n : Nat} {c : Rg.Pt} {x : Rg.Pt × Rg.Hull} (h : ¬ (c.ok = false ∨ 64 < n)) (e : (Rg.track l i)[m]? = some x) : ansOf (Wqatcu.told l (.zone i m c n)) = [if Rg.inZone x.2 c n = true then 1 else 0] := by
  show ansOf (if c.ok = false ∨ 64 < n then _ else match (Rg.track l i)[m]? with | some x => _ | none => _) = _
  rw [if_neg h, e]
  rfl
theorem touch_wrong {l : Rg.Log} {i j m : Nat} (h : i = j) : ansOf (Wqatcu.told l (.touch i j m)) = [-8] := by
  show ansOf (if i = j then _ else _) = _
  rw [if_pos h]
  rfl
theorem touch_no {l : Rg.Log} {i j m : Nat} (h : ¬ i = j) (hb : ¬ (here l i m ∧ here l j m)) : ansOf (Wqatcu.told l (.touch i j m)) = [-4] := by
  show ansOf (if i = j then _ else if Wqatcu.there l i m = false ∨ Wqatcu.there l j m = false then _ else _) = _
  rw [if_neg h, if_pos]
  · rfl
  · rw [there_iff, there_iff]
    by_cases hi : here l i m
    · exact .inr fun z => hb ⟨hi, z⟩
    · exact .inl hi
theorem touch_yes {l : Rg.Log} {i j m : Nat} (h : ¬ i = j) (hb : here l i m ∧ here l j m) : ansOf (Wqatcu.told l (.touch i j m)) = match Rg.firstFrom m (Rg.moments l).length fun (k : Nat) => Rg.touchAt l i j k with
    | some k => [0, (k : Int)]
    | none => [-3] := by
  show ansOf (if i = j then _ else if Wqatcu.there l i m = false ∨ Wqatcu.there l j m = false then _ else _) = _
  rw [if_neg h, if_neg]
  · cases Rg.firstFrom m (Rg.moments l).length fun (k : Nat) => Rg.touchAt l i j k <;> rfl
  · rw [there_iff, there_iff]
    rintro (z | z)
    · exact z hb.1
    · exact z hb.2
def spZ (CB CL CM : Addr) : Sp := fun vs H Q _ => ∃ (pb a : Addr) (S : List Addr) (l : Rg.Log) (i m n : Nat) (c : Rg.Pt), vs = [.ref pb, .int (i : Int), .int (m : Int), .ref a, .int (n : Int)] ∧ BookAt CB CL CM S H pb l ∧ PtAt H c a ∧ ∀ (H' : Hp) (q : Addr), Same H H' → AnsAt H H' (ansOf (Wqatcu.told l (.zone i m c n))) q → Q (.ref q) H'
theorem BookAt.at2 {CB CL CM : Addr} {S : List Addr} {H : Hp} {pb : Addr} {l : Rg.Log} (B : BookAt CB CL CM S H pb l) {ms : List Addr} {G : Hp} (sG : Same G H) (g5 : Paired (fun a x => MomAt CM G x a) ms (momsOf l)) {i j m : Nat} (hi : here l i m) (hj : here l j m) :
    ∃ (a dm ah au at_ : Addr) (hs : List Addr) (c d : Addr) (u : Rg.Pt) (g h : Rg.Hull), ms[m]? = some a ∧ H a = some (.ins CM dm (momF ah au at_)) ∧ H ah = some (.lst (hs.map V.ref)) ∧ hs[i]? = some c ∧ hs[j]? = some d ∧ HullAt H g c ∧ HullAt H h d ∧ PtAt H u au ∧ PtSm u ∧ HullOk g ∧ HullOk h ∧ (Rg.track l i)[m]? = some (u, g) ∧ (Rg.track l j)[m]? = some (u, h) := by
  obtain ⟨mo, ts, g, t, e1, e2, e3, e4, e5, e6⟩ := moms_get B.fit hi.1 hi.2
  obtain ⟨mo', ts', h, t', e1', e2', e3', e4', e5', e6'⟩ := moms_get B.fit hj.1 hj.2
  rw [e2] at e2'
  cases e2'
  obtain ⟨a, ea, ra⟩ := paired_get g5 e1
  obtain ⟨dm, ah, au, at_, f1, ⟨hs, f2, f2'⟩, f3, f4⟩ := (ra.same sG).ex
  obtain ⟨c, ec, rc⟩ := paired_get f2' e3
  obtain ⟨d, ed, rd⟩ := paired_get f2' e3'
  have hm := List.mem_of_getElem? e2
  exact ⟨a, dm, ah, au, at_, hs, c, d, mo.1, g, h, ea, f1, f2, ec, ed, rc, rd, f3, pt_small (moment_ok B.ok hm).2, B.hull hm (List.mem_of_getElem? e3), B.hull hm (List.mem_of_getElem? e3'), e5, e5'⟩
section
variable {P : Program} {w : World} {K : PySem.W.Frag} {mg : Str → Option Value} {base : Heap} {CL CM CB : Addr}
theorem sc_zoneB : FnScope ["self", "i", "m", "place", "k"] ["self", "i", "m", "place", "k"] (defScope s_Book_zone) := ⟨rfl, rfl, rfl, by decide +kernel, rfl, by decide +kernel, by decide +kernel⟩
theorem ok_zoneB (F : FunM K CB "zone" "Book.zone" s_Book_zone ["self", "i", "m", "place", "k"]) (T : Txt mg) (C : Cs K CL CM CB) (OB : OkM P w K mg base CB 1 "has_boat" ["self", "i"] (spHas CB CL CM fun l => (Rg.boats l).length)) (OM : OkM P w K mg base CB 1 "has_moment" ["self", "m"] (spHas CB CL CM fun l => (Rg.moments l).length))
    (OF : Ok P w K mg base 1 "is_too_far" ["place"] spFar) (OZ : Ok P w K mg base 4 "is_in_zone" ["hull", "place", "lengths"] spZone) : OkM P w K mg base CB 5 "zone" ["self", "i", "m", "place", "k"] (spZ CB CL CM) := by
  refine F.ok sc_zoneB (fun vs H Q E h => ?_) (fun f cdv A outer s H vs Q E hr h => ?_)
  · obtain ⟨pb, a, S, l, i, m, n, c, rfl, _⟩ := h
    rfl
  · obtain ⟨pb, a, S, l, i, m, n, c, rfl, B, hc, k⟩ := h
    have h1 := hr.mono (show 1 ≤ 4 by decide)
    refine ⟨_, pss_cons (ps_if (pw_or (pt_val (pe_fn OF h1 (pa_cons (pv 3) pa_nil))) (pw_or1 (pt_cmpR op_gt (pv 4) (pe_gi T.c_WIDEST_ZONE) (nomark _)))).pt (pss_one (ps_ret (pe_lst (pa_cons (pe_gi T.c_WRONG) pa_nil)))) pss_nil)
      (pss_cons (ps_if (pt_imp (t' := fun σ H' Q' => σ = [some (.ref pb), some (.int (i : Int)), some (.int (m : Int)), some (.ref a), some (.int (n : Int))] ∧ H' = H ∧ Q' (!decide (here l i m)) H)
          (pw_or (pt_not (pt_val (pe_mt C.cB OB h1 (pv 0) (pa_cons (pv 1) pa_nil)))) (pw_or1 (pt_not (pt_val (pe_mt C.cB OM h1 (pv 0) (pa_cons (pv 2) pa_nil)))))).pt ?c1) (pss_one (ps_ret (pe_lst (pa_cons (pe_gi T.c_NO_SUCH) pa_nil)))) pss_nil)
      (pss_one (ps_ret (pe_lst (pa_cons (pe_ifExp (pt_val (pe_fn OZ hr (pa_cons (pe_ix ix_list (pe_fld (pe_ix ix_list (pe_fld (pe_fld (pv 0) rfl) rfl) (pv 2) (fun _ _ => rfl)) rfl) (pv 1) (fun _ _ => rfl)) (pa_cons (pv 3) (pa_cons (pv 4) pa_nil))))) pe_int pe_int) pa_nil))))), ?_⟩
    all_goals obtain ⟨dxb, pl, M, b1, L⟩ := B.ex
    case c1 =>
      rintro σ H' Q' ⟨rfl, rfl, q⟩
      refine ⟨_, rfl, pb, dxb, _, rfl, b1, rfl, _, rfl, pb, S, l, i, rfl, B, _, rfl, ?_⟩
      by_cases hi : i < (Rg.boats l).length
      · rw [decide_eq_true hi]
        refine iteF ⟨_, rfl, pb, dxb, _, rfl, b1, rfl, _, rfl, pb, S, l, m, rfl, B, _, rfl, ?_⟩
        rw [show decide (here l i m) = decide (m < (Rg.moments l).length) by congr 1; exact propext ⟨fun z => z.2, fun z => ⟨hi, z⟩⟩] at q
        exact q
      · rw [decide_eq_false hi]
        rw [decide_eq_false (fun z => hi z.1)] at q
        exact iteT q
    obtain ⟨dx, aw, an, ad, am, rfl, g1, g2, _, _, ⟨ms, g5, g5'⟩⟩ := L.ex
    refine ⟨_, rfl, a, c, rfl, hc, _, rfl, ?_⟩
    cases hok : c.ok with
    | false =>
      rw [zone_wrong (.inl hok)] at k
      exact iteT (iteT ⟨(by show 1 ≤ sizeLine; decide), fun q hq => k _ q (Same.new hq) ⟨hq, upd_same⟩⟩)
    | true =>
    refine iteF ⟨_, rfl, _, _, rfl, rfl, _, rfl, ?_⟩
    by_cases hn : 64 < n
    · rw [zone_wrong (.inr hn)] at k
      rw [decide_eq_true (show (64 : Int) < (n : Int) by omega)]
      exact iteT ⟨(by show 1 ≤ sizeLine; decide), fun q hq => k _ q (Same.new hq) ⟨hq, upd_same⟩⟩
    rw [decide_eq_false (show ¬ (64 : Int) < (n : Int) by omega)]
    have hw : ¬ (c.ok = false ∨ 64 < n) := by
      rintro (z | z)
      · rw [hok] at z; cases z
      · exact hn z
    refine iteF ⟨rfl, rfl, ?_⟩
    by_cases hb : here l i m
    rotate_left
    · rw [decide_eq_false hb]
      rw [zone_no B.fit hw hb] at k
      exact iteT ⟨(by show 1 ≤ sizeLine; decide), fun q hq => k _ q (Same.new hq) ⟨hq, upd_same⟩⟩
    rw [decide_eq_true hb]
    obtain ⟨a0, dm, ah, au, at_, hs, e, _, u, g, _, z1, z2, z3, z4, _, z5, _, _, _, z6, _, z7, _⟩ := B.at2 Off.sub g5' hb hb
    rw [zone_yes hw z7] at k
    refine iteF ⟨_, rfl, pb, CB, dxb, _, _, rfl, b1, C.cB, C.bL, lk_log, pl, CL, dx, _, _, rfl, g1, C.cL, C.nM, lk_m, _, rfl, am, _, _, V.ref a0, rfl, rfl, SqL.of g5, atI_nat (by rw [List.getElem?_map, z1]; rfl),
      a0, CM, dm, _, _, rfl, z2, C.cM, C.mH, lk_h, _, rfl, ah, _, _, V.ref e, rfl, rfl, SqL.of z3, atI_nat (by rw [List.getElem?_map, z4]; rfl), _, rfl, _, rfl, e, a, g, c, n, rfl, z5, hc, z6, hok, by omega, fun H1 s1 => ⟨_, rfl, ?_⟩⟩
    cases ez : Rg.inZone g c n with
    | true =>
      rw [ez] at k
      exact iteT ⟨(by show 1 ≤ sizeLine; decide), fun q hq => k _ q (s1.trans (Same.new hq)) ⟨s1.free hq, upd_same⟩⟩
    | false =>
      rw [ez] at k
      exact iteF ⟨(by show 1 ≤ sizeLine; decide), fun q hq => k _ q (s1.trans (Same.new hq)) ⟨s1.free hq, upd_same⟩⟩
theorem sc_touchB : FnScope ["self", "i", "j", "m", "moments", "k"] ["self", "i", "j", "m"] (defScope s_Book_touch) := ⟨rfl, rfl, rfl, by decide +kernel, rfl, by decide +kernel, by decide +kernel⟩
theorem ok_touchB (F : FunM K CB "touch" "Book.touch" s_Book_touch ["self", "i", "j", "m"]) (T : Txt mg) (C : Cs K CL CM CB) (OB : OkM P w K mg base CB 1 "has_boat" ["self", "i"] (spHas CB CL CM fun l => (Rg.boats l).length)) (OM : OkM P w K mg base CB 1 "has_moment" ["self", "m"] (spHas CB CL CM fun l => (Rg.moments l).length))
    (OT : Ok P w K mg base 4 "do_touch" ["one", "other"] spTouch) : OkM P w K mg base CB 5 "touch" ["self", "i", "j", "m"] (spR3 CB CL CM fun l i j m => ansOf (Wqatcu.told l (.touch i j m))) := by
  refine F.ok sc_touchB (fun vs H Q E h => ?_) (fun f cdv A outer s H vs Q E hr h => ?_)
  · obtain ⟨pb, S, l, i, j, m, rfl, _⟩ := h
    rfl
  · obtain ⟨pb, S, l, i, j, m, rfl, B, k⟩ := h
    replace k : ∀ (H' : Hp) (q : Addr), Same H H' → AnsAt H H' (ansOf (Wqatcu.told l (.touch i j m))) q → Q (.ref q) H' := k
    have h1 := hr.mono (show 1 ≤ 4 by decide)
    refine ⟨_, pss_cons (ps_if (pt_cmpR op_eq (pv 1) (pv 2) (nomark _)) (pss_one (ps_ret (pe_lst (pa_cons (pe_gi T.c_WRONG) pa_nil)))) pss_nil)
      (pss_cons (ps_if (pt_imp (t' := fun σ H' Q' => σ = [some (.ref pb), some (.int (i : Int)), some (.int (j : Int)), some (.int (m : Int)), none, none] ∧ H' = H ∧ Q' (!decide (here l i m ∧ here l j m)) H)
          (pw_or (pt_not (pt_val (pe_mt C.cB OB h1 (pv 0) (pa_cons (pv 1) pa_nil)))) (pw_or (pt_not (pt_val (pe_mt C.cB OB h1 (pv 0) (pa_cons (pv 2) pa_nil)))) (pw_or1 (pt_not (pt_val (pe_mt C.cB OM h1 (pv 0) (pa_cons (pv 3) pa_nil))))))).pt ?c1) (pss_one (ps_ret (pe_lst (pa_cons (pe_gi T.c_NO_SUCH) pa_nil)))) pss_nil)
      (pss_cons (ps_set (i := 4) sc_touchB.nd rfl (Or.inl rfl) (pe_fld (pe_fld (pv 0) rfl) rfl))
      (pss_cons (ps_for PassesOwn.never rfl (pi_range2 rfl T.b_range (pa_cons (pv 3) (pa_cons (pe_len T.b_len (pv 4)) pa_nil))) (pg_name (i := 5) sc_touchB.nd rfl (Or.inl rfl))
        (pss_one (ps_if (pt_val (pe_fn OT hr (pa_cons (pe_ix ix_list (pe_fld (pe_ix ix_list (pv 4) (pv 5) (fun _ _ => rfl)) rfl) (pv 1) (fun _ _ => rfl)) (pa_cons (pe_ix ix_list (pe_fld (pe_ix ix_list (pv 4) (pv 5) (fun _ _ => rfl)) rfl) (pv 2) (fun _ _ => rfl)) pa_nil))))
          (pss_one (ps_ret (pe_lst (pa_cons (pe_gi T.c_DONE) (pa_cons (pv 5) pa_nil))))) pss_nil)))
      (pss_one (ps_ret (pe_lst (pa_cons (pe_gi T.c_NONE_FOUND) pa_nil))))))), ?_⟩
    all_goals obtain ⟨dxb, pl, M, b1, L⟩ := B.ex
    case c1 =>
      rintro σ H' Q' ⟨rfl, rfl, q⟩
      refine ⟨_, rfl, pb, dxb, _, rfl, b1, rfl, _, rfl, pb, S, l, i, rfl, B, _, rfl, ?_⟩
      by_cases hi : i < (Rg.boats l).length
      · rw [decide_eq_true hi]
        refine iteF ⟨_, rfl, pb, dxb, _, rfl, b1, rfl, _, rfl, pb, S, l, j, rfl, B, _, rfl, ?_⟩
        by_cases hj : j < (Rg.boats l).length
        · rw [decide_eq_true hj]
          refine iteF ⟨_, rfl, pb, dxb, _, rfl, b1, rfl, _, rfl, pb, S, l, m, rfl, B, _, rfl, ?_⟩
          rw [show decide (here l i m ∧ here l j m) = decide (m < (Rg.moments l).length) by congr 1; exact propext ⟨fun z => z.1.2, fun z => ⟨⟨hi, z⟩, hj, z⟩⟩] at q
          exact q
        · rw [decide_eq_false hj]
          rw [decide_eq_false (fun z => hj z.2.1)] at q
          exact iteT q
      · rw [decide_eq_false hi]
        rw [decide_eq_false (fun z => hi z.1.1)] at q
        exact iteT q
    obtain ⟨dx, aw, an, ad, am, rfl, g1, g2, _, _, ⟨ms, g5, g5'⟩⟩ := L.ex
    refine ⟨_, rfl, _, rfl, rfl, _, rfl, ?_⟩
    by_cases hij : i = j
    · rw [decide_eq_true (show V.int (i : Int) = V.int (j : Int) by rw [hij])]
      rw [touch_wrong hij] at k
      exact iteT ⟨(by show 1 ≤ sizeLine; decide), fun q hq => k _ q (Same.new hq) ⟨hq, upd_same⟩⟩
    rw [decide_eq_false (int_ne hij)]
    refine iteF ⟨rfl, rfl, ?_⟩
    by_cases hb : here l i m ∧ here l j m
    rotate_left
    · rw [decide_eq_false hb]
      rw [touch_no hij hb] at k
      exact iteT ⟨(by show 1 ≤ sizeLine; decide), fun q hq => k _ q (Same.new hq) ⟨hq, upd_same⟩⟩
    rw [decide_eq_true hb]
    rw [touch_yes hij hb] at k
    have hn := B.fit.nm
    have hm := hb.1.2
    refine iteF ⟨_, rfl, pb, CB, dxb, _, _, rfl, b1, C.cB, C.bL, lk_log, pl, CL, dx, _, _, rfl, g1, C.cL, C.nM, lk_m, ?_⟩
    refine ⟨_, rfl, _, rfl, am, _, rfl, .inl (SqL.of g5), (m : Int), ((Rg.moments l).length : Int), (by rw [List.length_map, g5'.length, momsOf_length]), ⟨by omega, by omega, by omega, by omega⟩, ?_⟩
    have en : (((Rg.moments l).length : Int) - (m : Int)).toNat = (Rg.moments l).length - m := by omega
    rw [en]
    refine for_range (lo := (m : Int)) (n := (Rg.moments l).length - m)
      (fun jj σ H' => ∃ v5 : Option V, σ = [some (.ref pb), some (.int (i : Int)), some (.int (j : Int)), some (.int (m : Int)), some (.ref am), v5] ∧ Same H H' ∧ ∀ j', m ≤ j' → j' < m + jj → Rg.touchAt l i j j' = false)
      ⟨none, rfl, Same.refl _, fun j' a b => by omega⟩ ?_ ?_
    · rintro jj σ H' hj ⟨v5, rfl, s5, hno⟩
      obtain ⟨a0, dm, ah, au, at_, hs, e, d, u, g, h, z1, z2, z3, z4, z4', z5, z5', _, _, z6, z6', z7, z7'⟩ := (B.same s5).at2 (Off.sub.trans s5) g5' (i := i) (j := j) (m := m + jj) ⟨hb.1.1, by omega⟩ ⟨hb.2.1, by omega⟩
      have eT : Rg.touchAt l i j (m + jj) = Rg.touch g h := by
        unfold Rg.touchAt
        rw [z7, z7']
      have hix : (m : Int) + (jj : Nat) = ((m + jj : Nat) : Int) := by omega
      refine ⟨_, rfl, _, rfl, am, _, _, V.ref a0, rfl, rfl, SqL.of (s5 _ _ g5), at_of (j := m + jj) hix (by rw [List.getElem?_map, z1]; rfl), a0, CM, dm, _, _, rfl, z2, C.cM, C.mH, lk_h, _, rfl, ah, _, _, V.ref e, rfl, rfl, SqL.of z3, atI_nat (by rw [List.getElem?_map, z4]; rfl),
        _, rfl, _, rfl, am, _, _, V.ref a0, rfl, rfl, SqL.of (s5 _ _ g5), at_of (j := m + jj) hix (by rw [List.getElem?_map, z1]; rfl), a0, CM, dm, _, _, rfl, z2, C.cM, C.mH, lk_h, _, rfl, ah, _, _, V.ref d, rfl, rfl, SqL.of z3, atI_nat (by rw [List.getElem?_map, z4']; rfl),
        e, d, g, h, rfl, z5, z5', z6, z6', fun H6 s6 => ⟨_, rfl, ?_⟩⟩
      have s56 := s5.trans s6
      cases et : Rg.touch g h with
      | true =>
        rw [firstFrom_here (j := m + jj) (by omega) (by omega) (fun j' q1 q2 => hno j' q1 (by omega)) (eT.trans et)] at k
        refine iteT ⟨_, rfl, (by show 2 ≤ sizeLine; decide), fun q hq => k _ q (s56.trans (Same.new hq)) ⟨s56.free hq, ?_⟩⟩
        rw [upd_same, hix]
        rfl
      | false =>
        refine iteF ⟨_, rfl, s56, fun j' q1 q2 => ?_⟩
        by_cases hj' : j' < m + jj
        · exact hno j' q1 hj'
        · have e' : j' = m + jj := by omega
          rw [e', eT, et]
    · rintro σ H' ⟨v5, rfl, s5, hno⟩
      rw [firstFrom_none (fun j' q1 q2 => hno j' q1 (by omega))] at k
      exact ⟨(by show 1 ≤ sizeLine; decide), fun q hq => k _ q (s5.trans (Same.new hq)) ⟨s5.free hq, upd_same⟩⟩
end
end Bl
end
section
set_option maxHeartbeats 2000000
namespace Bl
open PySem PySem.Spec PyProof.Rows L2
theorem line_iff (p q : Rg.Pt) : Wqatcu.line p q = true ↔ p.ok = true ∧ q.ok = true ∧ p ≠ q := by
  unfold Wqatcu.line
  rw [Bool.and_eq_true, Bool.and_eq_true, bne_iff_ne]
theorem over_wrong {l : Rg.Log} {i m : Nat} {p q : Rg.Pt} (h : ¬ (p.ok = true ∧ q.ok = true ∧ p ≠ q)) : ansOf (Wqatcu.told l (.over i m p q)) = [-8] := by
  show ansOf (if Wqatcu.line p q = false then _ else _) = _
  rw [if_pos (Bool.eq_false_iff.mpr (fun z => h ((line_iff p q).mp z)))]
  rfl
theorem over_no {l : Rg.Log} {i m : Nat} {p q : Rg.Pt} (h : p.ok = true ∧ q.ok = true ∧ p ≠ q) (hb : ¬ here l i m) : ansOf (Wqatcu.told l (.over i m p q)) = [-4] := by
  show ansOf (if Wqatcu.line p q = false then _ else if Wqatcu.there l i m = false then _ else _) = _
  rw [if_neg (fun z => by rw [(line_iff p q).mpr h] at z; cases z), if_pos ((there_iff l i m).mpr hb)]
  rfl
theorem over_yes {l : Rg.Log} {i m : Nat} {p q : Rg.Pt} (h : p.ok = true ∧ q.ok = true ∧ p ≠ q) (hb : here l i m) : ansOf (Wqatcu.told l (.over i m p q)) = match Rg.firstFrom m (Rg.moments l).length fun (k : Nat) => (Rg.overAt l i p q k).isSome with
    | some k => 0 :: (k : Int) :: ((Rg.overAt l i p q k).map pairI).getD []
    | none => [-3] := by
  show ansOf (if Wqatcu.line p q = false then _ else if Wqatcu.there l i m = false then _ else _) = _
  rw [if_neg (fun z => by rw [(line_iff p q).mpr h] at z; cases z), if_neg (fun z => (there_iff l i m).mp z hb)]
  cases Rg.firstFrom m (Rg.moments l).length fun (k : Nat) => (Rg.overAt l i p q k).isSome <;> rfl
theorem overAt_eq {l : Rg.Log} {i k : Nat} {p q : Rg.Pt} {x y : Rg.Pt × Rg.Hull} (hne : p ≠ q) (e1 : (Rg.track l i)[k]? = some x) (e2 : (Rg.track l i)[k + 1]? = some y) : Rg.overAt l i p q k = if goesOver p q x.2.bow y.2.bow = true then some (whenOver p q x.2.bow y.2.bow) else none := by
  unfold Rg.overAt
  rw [e1, e2]
  exact over_eq hne _ _
theorem overAt_last {l : Rg.Log} {i k : Nat} {p q : Rg.Pt} (h : (Rg.track l i).length ≤ k + 1) : Rg.overAt l i p q k = none := by
  unfold Rg.overAt
  rw [List.getElem?_eq_none_iff.mpr h]
  cases (Rg.track l i)[k]? <;> rfl
def spO (CB CL CM : Addr) : Sp := fun vs H Q _ => ∃ (pb a b : Addr) (S : List Addr) (l : Rg.Log) (i m : Nat) (p q : Rg.Pt), vs = [.ref pb, .int (i : Int), .int (m : Int), .ref a, .ref b] ∧ BookAt CB CL CM S H pb l ∧ PtAt H p a ∧ PtAt H q b ∧ ∀ (H' : Hp) (r : Addr), Same H H' → AnsAt H H' (ansOf (Wqatcu.told l (.over i m p q))) r → Q (.ref r) H'
section
variable {P : Program} {w : World} {K : PySem.W.Frag} {mg : Str → Option Value} {base : Heap} {CL CM CB : Addr}
theorem sc_overB : FnScope ["self", "i", "m", "p", "q", "bows", "k", "moment"] ["self", "i", "m", "p", "q"] (defScope s_Book_over) := ⟨rfl, rfl, rfl, by decide +kernel, rfl, by decide +kernel, by decide +kernel⟩
theorem ok_overB (F : FunM K CB "over" "Book.over" s_Book_over ["self", "i", "m", "p", "q"]) (T : Txt mg) (C : Cs K CL CM CB) (OB : OkM P w K mg base CB 1 "has_boat" ["self", "i"] (spHas CB CL CM fun l => (Rg.boats l).length)) (OM : OkM P w K mg base CB 1 "has_moment" ["self", "m"] (spHas CB CL CM fun l => (Rg.moments l).length))
    (OF : Ok P w K mg base 1 "is_too_far" ["place"] spFar) (OBw : Ok P w K mg base 1 "bow" ["hull"] spBow) (OG : Ok P w K mg base 3 "goes_over" ["c", "d", "p", "q"] spOver) (OW : Ok P w K mg base 3 "when_over" ["c", "d", "p", "q"] spWhen) : OkM P w K mg base CB 4 "over" ["self", "i", "m", "p", "q"] (spO CB CL CM) := by
  refine F.ok sc_overB (fun vs H Q E h => ?_) (fun f cdv A outer s H vs Q E hr h => ?_)
  · obtain ⟨pb, a, b, S, l, i, m, p, q, rfl, _⟩ := h
    rfl
  · obtain ⟨pb, a, b, S, l, i, m, p, q, rfl, B, hp, hq, k⟩ := h
    have h1 := hr.mono (show 1 ≤ 3 by decide)
    refine ⟨_, pss_cons (ps_if (pw_or (pt_val (pe_fn OF h1 (pa_cons (pv 3) pa_nil))) (pw_or (pt_val (pe_fn OF h1 (pa_cons (pv 4) pa_nil))) (pw_or1 (pt_cmpR (op_eqD hr.units) (pv 3) (pv 4) (nomark _))))).pt (pss_one (ps_ret (pe_lst (pa_cons (pe_gi T.c_WRONG) pa_nil)))) pss_nil)
      (pss_cons (ps_if (pt_imp (t' := fun σ H' Q' => σ = [some (.ref pb), some (.int (i : Int)), some (.int (m : Int)), some (.ref a), some (.ref b), none, none, none] ∧ H' = H ∧ Q' (!decide (here l i m)) H)
          (pw_or (pt_not (pt_val (pe_mt C.cB OB h1 (pv 0) (pa_cons (pv 1) pa_nil)))) (pw_or1 (pt_not (pt_val (pe_mt C.cB OM h1 (pv 0) (pa_cons (pv 2) pa_nil)))))).pt ?c1) (pss_one (ps_ret (pe_lst (pa_cons (pe_gi T.c_NO_SUCH) pa_nil)))) pss_nil)
      (pss_cons (ps_setLc (i := 5) (own := [("moment", 7)]) rfl sc_overB.nd rfl rfl (sw_true rfl rfl rfl (by decide +kernel)) (pi_list (pe_slice sl_list (pe_fld (pe_fld (pv 0) rfl) rfl) (po_some (pv 2)) po_none))
        (blkOk_by (N := ["self", "i", "m", "p", "q", "bows", "k", "moment"]) (sc := defScope s_Book_over) (by decide +kernel)) (fun _ _ _ _ _ => pg_name (i := 7) sc_overB.nd rfl (Or.inl rfl)) (fun _ _ _ _ _ => pts_nil)
        (fun _ _ _ _ _ => pe_fn OBw h1 (pa_cons (pe_ix (ix_listK (K := K) rfl) (pe_fldK (K := K) rfl (pv 7) rfl) (pv 1) (fun _ _ => rfl)) pa_nil)))
      (pss_cons (ps_for PassesOwn.never rfl (pi_range1 rfl T.b_range (pa_cons (pe_op op_sub (pe_len T.b_len (pv 5)) pe_int) pa_nil)) (pg_name (i := 6) sc_overB.nd rfl (Or.inl rfl))
        (pss_one (ps_if (pt_val (pe_fn OG hr (pa_cons (pe_ix ix_list (pv 5) (pv 6) (fun _ _ => rfl)) (pa_cons (pe_ix ix_list (pv 5) (pe_op op_add (pv 6) pe_int) (fun _ _ => rfl)) (pa_cons (pv 3) (pa_cons (pv 4) pa_nil))))))
          (pss_one (ps_ret (pe_op op_cat (pe_lst (pa_cons (pe_gi T.c_DONE) (pa_cons (pe_op op_add (pv 2) (pv 6)) pa_nil))) (pe_fn OW hr (pa_cons (pe_ix ix_list (pv 5) (pv 6) (fun _ _ => rfl)) (pa_cons (pe_ix ix_list (pv 5) (pe_op op_add (pv 6) pe_int) (fun _ _ => rfl)) (pa_cons (pv 3) (pa_cons (pv 4) pa_nil)))))))) pss_nil)))
      (pss_one (ps_ret (pe_lst (pa_cons (pe_gi T.c_NONE_FOUND) pa_nil))))))), ?_⟩
    all_goals obtain ⟨dxb, pl, M, b1, L⟩ := B.ex
    case c1 =>
      rintro σ H' Q' ⟨rfl, rfl, q⟩
      refine ⟨_, rfl, pb, dxb, _, rfl, b1, rfl, _, rfl, pb, S, l, i, rfl, B, _, rfl, ?_⟩
      by_cases hi : i < (Rg.boats l).length
      · rw [decide_eq_true hi]
        refine iteF ⟨_, rfl, pb, dxb, _, rfl, b1, rfl, _, rfl, pb, S, l, m, rfl, B, _, rfl, ?_⟩
        rw [show decide (here l i m) = decide (m < (Rg.moments l).length) by congr 1; exact propext ⟨fun z => z.2, fun z => ⟨hi, z⟩⟩] at q
        exact q
      · rw [decide_eq_false hi]
        rw [decide_eq_false (fun z => hi z.1)] at q
        exact iteT q
    obtain ⟨dx, aw, an, ad, am, rfl, g1, g2, _, _, ⟨ms, g5, g5'⟩⟩ := L.ex
    have wrong : ¬ (p.ok = true ∧ q.ok = true ∧ p ≠ q) → (1 ≤ sizeLine ∧ ∀ r, H r = none → Q (.ref r) (upd H r (.lst [V.int (-8)]))) := fun hw => by
      rw [over_wrong hw] at k
      exact ⟨(by show 1 ≤ sizeLine; decide), fun q hq => k _ q (Same.new hq) ⟨hq, upd_same⟩⟩
    refine ⟨_, rfl, a, p, rfl, hp, _, rfl, ?_⟩
    cases op : p.ok with
    | false => exact iteT (iteT (wrong (fun z => by rw [op] at z; exact Bool.noConfusion z.1)))
    | true =>
    refine iteF ⟨_, rfl, b, q, rfl, hq, _, rfl, ?_⟩
    cases oq : q.ok with
    | false => exact iteT (iteT (wrong (fun z => by rw [oq] at z; exact Bool.noConfusion z.2.1)))
    | true =>
    refine iteF ⟨_, rfl, _, rfl, rEqT (ns := pI p) (ms := pI q) hp hq ⟨_, rfl, ?_⟩⟩
    by_cases hpq : p = q
    · rw [decide_eq_true (pI_inj.mpr hpq)]
      exact iteT (wrong (fun z => z.2.2 hpq))
    rw [decide_eq_false (fun z => hpq (pI_inj.mp z))]
    have hline : p.ok = true ∧ q.ok = true ∧ p ≠ q := ⟨op, oq, hpq⟩
    refine iteF ⟨rfl, rfl, ?_⟩
    by_cases hb : here l i m
    rotate_left
    · rw [decide_eq_false hb]
      rw [over_no hline hb] at k
      exact iteT ⟨(by show 1 ≤ sizeLine; decide), fun q hq => k _ q (Same.new hq) ⟨hq, upd_same⟩⟩
    rw [decide_eq_true hb]
    rw [over_yes hline hb] at k
    have hn := B.fit.nm
    have hm := hb.2
    have tl := trackLen B.fit hb.1
    have ml : ms.length = (Rg.moments l).length := by rw [g5'.length, momsOf_length]
    refine iteF ⟨_, rfl, pb, CB, dxb, _, _, rfl, b1, C.cB, C.bL, lk_log, pl, CL, dx, _, _, rfl, g1, C.cL, C.nM, lk_m, _, rfl, _, rfl, am, _, rfl, SqL.of g5, fun p1 hp1 => ?_⟩
    rw [cut_drop]
    have s1 := Same.new (o := .lst ((ms.map V.ref).drop m)) hp1
    have e1 : (upd H p1 (.lst ((ms.map V.ref).drop m))) p1 = some (.lst ((ms.map V.ref).drop m)) := upd_same
    generalize upd H p1 (.lst ((ms.map V.ref).drop m)) = H1 at s1 e1 ⊢
    have lenc : ((ms.map V.ref).drop m).length = (Rg.moments l).length - m := by rw [List.length_drop, List.length_map]; omega
    refine ⟨p1, rfl, ⟨_, SqL.of e1⟩, fun D hD => lc_map (R := fun j y G => ∃ (c : Addr) (x : Rg.Pt × Rg.Hull), y = .ref c ∧ (Rg.track l i)[m + j]? = some x ∧ PtAt G x.2.bow c ∧ HullOk x.2) (fun _ _ _ _ s ⟨q, x, a1, a2, a3, a4⟩ => ⟨q, x, a1, a2, a3.same s, a4⟩) hD e1 (by rw [lenc]; omega) (fun _ => rfl) ?_ ?_⟩
    · rintro j x hx H2 Q2 s2 hacc q2
      have hj : j < (Rg.moments l).length - m := by
        have := (List.getElem?_eq_some_iff.mp hx).1
        omega
      rw [List.getElem?_drop, List.getElem?_map] at hx
      have s12 := s1.trans s2
      obtain ⟨a0, dm, ah, au, at_, hs, c, _, u, g, _, z1, z2, z3, z4, _, z5, _, _, _, z6, _, z7, _⟩ := (B.same s12).at2 (Off.sub.trans s12) g5' (i := i) (j := i) (m := m + j) ⟨hb.1, by omega⟩ ⟨hb.1, by omega⟩
      rw [z1] at hx
      have ex : V.ref a0 = x := Option.some.inj hx
      subst ex
      exact ⟨_, rfl, a0, CM, dm, _, _, rfl, z2, C.cM, C.mH, lk_h, _, rfl, ah, _, _, V.ref c, rfl, rfl, SqL.of z3, atI_nat (by rw [List.getElem?_map, z4]; rfl), c, g, rfl, z5, fun H4 q s4 hq => q2 _ _ s4 ⟨q, _, rfl, z7, off_pt hacc s4 hq, z6⟩⟩
    · intro H3 hI
      rw [lenc] at hI
      have s13 := s1.trans hI.same
      obtain ⟨⟨ys, y1, y2, y3⟩, _⟩ := hI
      refine ⟨_, rfl, D, _, rfl, .inl (SqL.of y1), _, _, rfl, rfl, (((Rg.moments l).length - m - 1 : Nat) : Int), (by show [V.int ((ys.length : Int) - 1)] = _; rw [y2, show (((Rg.moments l).length - m : Nat) : Int) - 1 = (((Rg.moments l).length - m - 1 : Nat) : Int) by omega]), by omega, by omega, ?_⟩
      rw [Int.toNat_natCast]
      refine for_range (lo := 0) (n := (Rg.moments l).length - m - 1)
        (fun j σ H' => ∃ v6 : Option V, σ = [some (.ref pb), some (.int (i : Int)), some (.int (m : Int)), some (.ref a), some (.ref b), some (.ref D), v6, none] ∧ Same H3 H' ∧ ∀ j', m ≤ j' → j' < m + j → Rg.overAt l i p q j' = none)
        ⟨none, rfl, Same.refl _, fun j' a b => by omega⟩ ?_ ?_
      · rintro j σ H' hj ⟨v6, rfl, s5, hno⟩
        have s15 := s13.trans s5
        obtain ⟨c, x, c1, c2, c3, c4⟩ := y3 j _ (List.getElem?_eq_getElem (show j < ys.length by omega))
        obtain ⟨d, y, d1, d2, d3, d4⟩ := y3 (j + 1) _ (List.getElem?_eq_getElem (show j + 1 < ys.length by omega))
        have ec := List.getElem?_eq_getElem (show j < ys.length by omega)
        rw [c1] at ec
        have ed := List.getElem?_eq_getElem (show j + 1 < ys.length by omega)
        rw [d1] at ed
        have c3' : PtAt H' x.2.bow c := (c3.same Off.sub).same s5
        have d3' : PtAt H' y.2.bow d := (d3.same Off.sub).same s5
        have eo := overAt_eq (p := p) (q := q) hpq c2 d2
        have ij : (0 : Int) + (j : Nat) = ((j : Nat) : Int) := by omega
        have ij1 : (0 : Int) + (j : Nat) + 1 = ((j + 1 : Nat) : Int) := by omega
        refine ⟨_, rfl, _, rfl, D, _, _, V.ref c, rfl, rfl, SqL.of (s5 _ _ y1), at_of (j := j) ij ec, _, rfl, _, rfl, _, _, rfl, rfl, D, _, _, V.ref d, rfl, rfl, SqL.of (s5 _ _ y1), at_of (j := j + 1) ij1 ed, _, rfl, _, rfl,
          c, d, a, b, _, _, p, q, rfl, c3', d3', hp.same s15, hq.same s15, c4.b, d4.b, op, oq, fun H6 s6 => ⟨_, rfl, ?_⟩⟩
        have s56 := s5.trans s6
        have s16 := s13.trans s56
        cases eg : goesOver p q x.2.bow y.2.bow with
        | false =>
          rw [eg, if_neg Bool.false_ne_true] at eo
          refine iteF ⟨_, rfl, s56, fun j' q1 q2 => ?_⟩
          by_cases hj' : j' < m + j
          · exact hno j' q1 hj'
          · have e' : j' = m + j := by omega
            rw [e', eo]
        | true =>
          rw [eg, if_pos rfl] at eo
          rw [firstFrom_here (j := m + j) (by omega) (by omega) (fun j' q1 q2 => by rw [hno j' q1 (by omega)]; rfl) (by rw [eo]; rfl)] at k
          replace k : ∀ (H' : Hp) (r : Addr), Same H H' → AnsAt H H' (0 :: ((m + j : Nat) : Int) :: ((Rg.overAt l i p q (m + j)).map pairI).getD []) r → Q (.ref r) H' := k
          rw [eo] at k
          refine iteT ⟨_, rfl, _, rfl, _, _, rfl, rfl, (by show 2 ≤ sizeLine; decide), fun t1 ht1 => ?_⟩
          have st := Same.new (o := .lst [V.int 0, V.int ((m : Int) + (0 + (j : Nat)))]) ht1
          have vt : (upd H6 t1 (.lst [V.int 0, V.int ((m : Int) + (0 + (j : Nat)))])) t1 = some (.lst [V.int 0, V.int ((m : Int) + (0 + (j : Nat)))]) := upd_same
          generalize upd H6 t1 (.lst [V.int 0, V.int ((m : Int) + (0 + (j : Nat)))]) = H7 at st vt ⊢
          have s57 := s56.trans st
          have s67 := s6.trans st
          have s17 := s13.trans s57
          refine ⟨_, rfl, _, rfl, D, _, _, V.ref c, rfl, rfl, SqL.of (s57 _ _ y1), at_of (j := j) ij ec, _, rfl, _, rfl, _, _, rfl, rfl, D, _, _, V.ref d, rfl, rfl, SqL.of (s57 _ _ y1), at_of (j := j + 1) ij1 ed, _, rfl, _, rfl,
            c, d, a, b, _, _, p, q, rfl, c3'.same s67, d3'.same s67, hp.same s17, hq.same s17, c4.b, d4.b, op, oq, eg, fun H8 r s8 hr8 h8 => ?_⟩
          have s18 := s17.trans s8
          refine ⟨t1, r, _, _, rfl, rfl, s8 _ _ vt, h8, (by show 4 ≤ sizeLine; decide), fun q hq => ?_⟩
          refine k _ q (s18.trans (Same.new hq)) ⟨s18.free hq, ?_⟩
          rw [upd_same, show (m : Int) + (0 + (j : Nat)) = ((m + j : Nat) : Int) by omega]
          rfl
      · rintro σ H' ⟨v6, rfl, s5, hno⟩
        have s15 := s13.trans s5
        rw [firstFrom_none (fun j' q1 q2 => by
          by_cases hj' : j' < m + ((Rg.moments l).length - m - 1)
          · rw [hno j' q1 hj']; rfl
          · rw [overAt_last (by omega)]; rfl)] at k
        exact ⟨(by show 1 ≤ sizeLine; decide), fun q hq => k _ q (s15.trans (Same.new hq)) ⟨s15.free hq, upd_same⟩⟩
end
end Bl
end
section
set_option maxHeartbeats 2000000
namespace Bl
open PySem PySem.Spec PyProof.Rows L2
structure KDict (K : PySem.W.Frag) (d : Addr) (f : Int → Option Int) : Prop where
  ex : ∃ (o : Obj) (es : Array DictEntry) (ep : Nat), K.lookup d = some o ∧ o.ExactDict ∧ o.data = .dict es ep ∧ (∀ e ∈ es, ∃ k, Value.isInt k e.key = true ∧ e.hash = hashInt k) ∧ ∀ k j, f k = some j → ∃ t, findBy Value.isInt es k = some (.int j t)
theorem pe_kdget {X : Cx} {x : Str} {d : Addr} {f : Int → Option Int} {i : Expr} {ty : TE} {p pos : Pos} (hd : X.mg x = some (.ref d)) (kd : KDict X.K d f) (hi : PE X i ty) (hs : NoSl i) (hg : Gl X x := by rfl) (hdb : (x == ("__debug__" : Str)) = false := by decide) :
    PE X (.Subscript (.Name x p) i pos) (fun σ H Q => ty σ H fun y H2 => ∃ k j, y = .int k ∧ f k = some j ∧ Q (.int j) H2) := by
  intro pins s σ H Q I h
  refine subD_of PySem.F.slot_dict_getitem.lookup hs (ld_glob I hg hd (thn (hi pins s σ H _ I h) fun iv s2 ⟨y, H2, I2, ry, k, j, ey, ej, q2⟩ => ?_) hdb)
  subst ey
  obtain ⟨t, rfl⟩ := (show ∃ t, iv = Value.int k t from ry)
  obtain ⟨o, es, ep, h1, h2, h3, h4, h5⟩ := kd.ex
  obtain ⟨t', ht⟩ := h5 k j ej
  have hm : s2.heap.MapOf (intKind X.prog X.w) d (fun k => findBy Value.isInt es k) := ⟨o, es, ep, I2.kIn d o h1, h2, h3, h4, fun _ => rfl⟩
  exact ⟨hm.typeIs, wpAny_getItem_of (knd := intKind X.prog X.w) (k := k) (show Value.isInt k (.int k t) = true by simp [Value.isInt]) hm ht ⟨.int j, H2, I2.tok _, ⟨t', rfl⟩, q2⟩⟩
def argF (p : Int) : Option Int := if 2 ≤ p ∧ p ≤ 12 then some (argc p : Int) else none
section
variable {P : Program} {w : World} {K : PySem.W.Frag} {mg : Str → Option Value} {base : Heap} {CL CM CB : Addr}
def isRow (p : Int) : Bool := decide (p = 0) || decide (p = 1)
def spRow : Sp := fun vs H Q _ => ∃ p : Int, vs = [.int p] ∧ Q (.bl (isRow p)) H
theorem sc_row : FnScope ["call"] ["call"] (defScope s_has_row) := ⟨rfl, rfl, rfl, by decide +kernel, rfl, by decide +kernel, by decide +kernel⟩
theorem int_iff (a b : Int) : decide (V.int a = V.int b) = decide (a = b) := by
  congr 1
  exact propext ⟨fun h => V.int.inj h, fun h => by rw [h]⟩
theorem ok_row (F : FunG K mg "has_row" s_has_row ["call"]) (T : Txt mg) : Ok P w K mg base 1 "has_row" ["call"] spRow := by
  refine F.ok sc_row (fun vs H Q E h => ?_) (fun f cdv A outer s H vs Q E hr h => ?_)
  · obtain ⟨p, rfl, _⟩ := h
    rfl
  · obtain ⟨p, rfl, k⟩ := h
    refine ⟨_, pss_one (ps_ret (pe_or (pe_cmpR op_eq (pv 0) (pe_gi T.c_TAKE) (nomark _)) (pe_one (pe_cmpR op_eq (pv 0) (pe_gi T.c_MORE) (nomark _))))), ?_⟩
    unfold isRow at k
    refine ⟨_, rfl, rfl, _, rfl, ?_⟩
    rw [int_iff]
    cases e : decide (p = 0) with
    | true =>
      rw [e, Bool.true_or] at k
      exact iteT k
    | false =>
      rw [e, Bool.false_or] at k
      refine iteF ⟨_, rfl, rfl, ?_⟩
      rw [int_iff]
      exact k
theorem get_int {ns : List Int} {i : Nat} {p : Int} (h : ns[i]? = some p) : (ns.map V.int)[i]? = some (V.int p) := by
  rw [List.getElem?_map, h]
  rfl
def spFirstK (K : PySem.W.Frag) : Sp := fun vs H Q _ => ∃ (a : Addr) (ns : List Int) (i : Nat) (p : Int), vs = [.ref a, .int (i : Int)] ∧ SqL K H a (ns.map V.int) ∧ ns[i]? = some p ∧ Q (.int (if isRow p = true then (i : Int) + 2 else (i : Int) + 1)) H
theorem sc_first : FnScope ["calls", "place"] ["calls", "place"] (defScope s_first_argument) := ⟨rfl, rfl, rfl, by decide +kernel, rfl, by decide +kernel, by decide +kernel⟩
theorem ok_first (F : FunG K mg "first_argument" s_first_argument ["calls", "place"]) (OR : Ok P w K mg base 1 "has_row" ["call"] spRow) : Ok P w K mg base 2 "first_argument" ["calls", "place"] (spFirstK K) := by
  refine F.ok sc_first (fun vs H Q E h => ?_) (fun f cdv A outer s H vs Q E hr h => ?_)
  · obtain ⟨a, ns, i, p, rfl, _⟩ := h
    rfl
  · obtain ⟨a, ns, i, p, rfl, hs, hi, k⟩ := h
    refine ⟨_, pss_one (ps_ret (pe_ifExp (pt_val (pe_fn OR hr (pa_cons (pe_ix ix_list (pv 0) (pv 1) (fun _ _ => rfl)) pa_nil))) (pe_op op_add (pv 1) pe_int) (pe_op op_add (pv 1) pe_int))), ?_⟩
    refine ⟨_, rfl, _, rfl, a, _, _, _, rfl, rfl, hs, atI_nat (get_int hi), p, rfl, _, rfl, ?_⟩
    cases e : isRow p with
    | true =>
      rw [e] at k
      exact iteT ⟨_, rfl, _, _, rfl, rfl, k⟩
    | false =>
      rw [e] at k
      exact iteF ⟨_, rfl, _, _, rfl, rfl, k⟩
def spCount (K : PySem.W.Frag) : Sp := fun vs H Q _ => ∃ (a : Addr) (ns : List Int) (i : Nat) (p n : Int), vs = [.ref a, .int (i : Int)] ∧ SqL K H a (ns.map V.int) ∧ ns[i]? = some p ∧ (if isRow p = true then ns[i + 1]? = some n else argF p = some n) ∧ Q (.int n) H
theorem sc_count : FnScope ["calls", "place", "call"] ["calls", "place"] (defScope s_count_arguments) := ⟨rfl, rfl, rfl, by decide +kernel, rfl, by decide +kernel, by decide +kernel⟩
theorem ok_count (F : FunG K mg "count_arguments" s_count_arguments ["calls", "place"]) (OR : Ok P w K mg base 1 "has_row" ["call"] spRow) {d : Addr} (hd : mg "ARGUMENTS" = some (.ref d)) (kd : KDict K d argF) : Ok P w K mg base 2 "count_arguments" ["calls", "place"] (spCount K) := by
  refine F.ok sc_count (fun vs H Q E h => ?_) (fun f cdv A outer s H vs Q E hr h => ?_)
  · obtain ⟨a, ns, i, p, n, rfl, _⟩ := h
    rfl
  · obtain ⟨a, ns, i, p, n, rfl, hs, hi, hn, k⟩ := h
    refine ⟨_, pss_cons (ps_set (i := 2) sc_count.nd rfl (Or.inl rfl) (pe_ix ix_list (pv 0) (pv 1) (fun _ _ => rfl)))
      (pss_one (ps_ret (pe_ifExp (pt_val (pe_fn OR hr (pa_cons (pv 2) pa_nil))) (pe_ix ix_list (pv 0) (pe_op op_add (pv 1) pe_int) (fun _ _ => rfl)) (pe_kdget hd kd (pv 2) (fun _ _ => rfl))))), ?_⟩
    refine ⟨_, rfl, _, rfl, a, _, _, _, rfl, rfl, hs, atI_nat (get_int hi), _, rfl, p, rfl, _, rfl, ?_⟩
    cases e : isRow p with
    | true =>
      rw [e, if_pos rfl] at hn
      exact iteT ⟨_, rfl, _, rfl, _, _, rfl, rfl, a, _, _, _, rfl, rfl, hs, at_of (j := i + 1) (by show (i : Int) + 1 = _; omega) (get_int hn), k⟩
    | false =>
      rw [e, if_neg Bool.false_ne_true] at hn
      exact iteF ⟨_, rfl, p, n, rfl, hn, k⟩
end
inductive Asks : Int → List Int → Wqatcu.Call → Prop
  | take (t : Rg.Bytes) : Asks 0 (t.map bI) (.take t)
  | more (t : Rg.Bytes) : Asks 1 (t.map bI) (.more t)
  | text : Asks 2 [] .text
  | sizes : Asks 3 [] .sizes
  | name (i : Nat) : Asks 4 [(i : Int)] (.name i)
  | boat (i m : Nat) : Asks 5 [(i : Int), (m : Int)] (.boat i m)
  | tack (i m : Nat) : Asks 6 [(i : Int), (m : Int)] (.tack i m)
  | next (i m : Nat) : Asks 7 [(i : Int), (m : Int)] (.next i m)
  | round (i m k : Nat) : Asks 8 [(i : Int), (m : Int), (k : Int)] (.round i m k)
  | pair (i j m : Nat) : Asks 9 [(i : Int), (j : Int), (m : Int)] (.pair i j m)
  | zone (i m : Nat) (c : Rg.Pt) (k : Nat) : Asks 10 [(i : Int), (m : Int), c.x, c.y, (k : Int)] (.zone i m c k)
  | over (i m : Nat) (p q : Rg.Pt) : Asks 11 [(i : Int), (m : Int), p.x, p.y, q.x, q.y] (.over i m p q)
  | touch (i j m : Nat) : Asks 12 [(i : Int), (j : Int), (m : Int)] (.touch i j m)
theorem natural_nn {z : Int} {n : Nat} (h : WqatcuNeutral.natural z n = true) : 0 ≤ z := by
  unfold WqatcuNeutral.natural at h
  rw [Bool.and_eq_true, decide_eq_true_iff] at h
  exact h.1
theorem bytes_back {t : List Int} (h : (t.all fun (z : Int) => WqatcuNeutral.natural z 8) = true) : (WqatcuNeutral.bytes t).map bI = t := by
  unfold WqatcuNeutral.bytes
  rw [List.map_map]
  induction t with
  | nil => rfl
  | cons z r ih =>
    rw [List.all_cons, Bool.and_eq_true] at h
    rw [List.map_cons, ih h.2]
    congr 1
    have h1 := h.1
    unfold WqatcuNeutral.natural at h1
    rw [Bool.and_eq_true, decide_eq_true_iff, decide_eq_true_iff] at h1
    have h2 : z < 256 := h1.2
    show ((UInt8.ofNat z.toNat).toNat : Int) = z
    rw [UInt8.toNat_ofNat']
    omega
theorem nat_back {z : Int} {n : Nat} (h : WqatcuNeutral.natural z n = true) : ((WqatcuNeutral.nat z : Nat) : Int) = z := by
  have := natural_nn h
  unfold WqatcuNeutral.nat
  omega
theorem asks_row {p : Int} {t : List Int} (hp : p = 0 ∨ p = 1) (h : WqatcuNeutral.asked1 [[p], t] = true) : ∃ x, Asks p t x ∧ WqatcuNeutral.callOf [[p], t] = some x := by
  rcases hp with rfl | rfl
  · have e := bytes_back (t := t) h
    have := Asks.take (WqatcuNeutral.bytes t)
    rw [e] at this
    exact ⟨_, this, rfl⟩
  · have e := bytes_back (t := t) h
    have := Asks.more (WqatcuNeutral.bytes t)
    rw [e] at this
    exact ⟨_, this, rfl⟩
theorem len0 {α : Type} {l : List α} (h : l.length = 0) : l = [] := List.length_eq_zero_iff.mp h
theorem lenS {α : Type} {l : List α} {n : Nat} (h : l.length = n + 1) : ∃ a r, l = a :: r ∧ r.length = n := by
  cases l with
  | nil => cases h
  | cons a r => exact ⟨a, r, rfl, by simpa using h⟩
theorem asks_plain {p : Int} {g : List Int} (h2 : 2 ≤ p) (h12 : p ≤ 12) (hl : g.length = argc p) (h : WqatcuNeutral.asked1 [p :: g] = true) : ∃ x, Asks p g x ∧ WqatcuNeutral.callOf [p :: g] = some x := by
  have hp : p = 2 ∨ p = 3 ∨ p = 4 ∨ p = 5 ∨ p = 6 ∨ p = 7 ∨ p = 8 ∨ p = 9 ∨ p = 10 ∨ p = 11 ∨ p = 12 := by omega
  rcases hp with rfl | rfl | rfl | rfl | rfl | rfl | rfl | rfl | rfl | rfl | rfl
  · rw [len0 hl] at h ⊢
    exact ⟨_, .text, rfl⟩
  · rw [len0 hl] at h ⊢
    exact ⟨_, .sizes, rfl⟩
  · obtain ⟨a, r1, rfl, hl1⟩ := lenS hl
    rw [len0 hl1] at h ⊢
    have e1 := nat_back (z := a) h
    have A := Asks.name (WqatcuNeutral.nat a)
    rw [e1] at A
    exact ⟨_, A, rfl⟩
  · obtain ⟨a, r1, rfl, hl1⟩ := lenS hl
    obtain ⟨b, r2, rfl, hl2⟩ := lenS hl1
    rw [len0 hl2] at h ⊢
    replace h : (WqatcuNeutral.natural a 32 && WqatcuNeutral.natural b 32) = true := h
    rw [Bool.and_eq_true] at h
    have A := Asks.boat (WqatcuNeutral.nat a) (WqatcuNeutral.nat b)
    rw [nat_back h.1, nat_back h.2] at A
    exact ⟨_, A, rfl⟩
  · obtain ⟨a, r1, rfl, hl1⟩ := lenS hl
    obtain ⟨b, r2, rfl, hl2⟩ := lenS hl1
    rw [len0 hl2] at h ⊢
    replace h : (WqatcuNeutral.natural a 32 && WqatcuNeutral.natural b 32) = true := h
    rw [Bool.and_eq_true] at h
    have A := Asks.tack (WqatcuNeutral.nat a) (WqatcuNeutral.nat b)
    rw [nat_back h.1, nat_back h.2] at A
    exact ⟨_, A, rfl⟩
  · obtain ⟨a, r1, rfl, hl1⟩ := lenS hl
    obtain ⟨b, r2, rfl, hl2⟩ := lenS hl1
    rw [len0 hl2] at h ⊢
    replace h : (WqatcuNeutral.natural a 32 && WqatcuNeutral.natural b 32) = true := h
    rw [Bool.and_eq_true] at h
    have A := Asks.next (WqatcuNeutral.nat a) (WqatcuNeutral.nat b)
    rw [nat_back h.1, nat_back h.2] at A
    exact ⟨_, A, rfl⟩
  · obtain ⟨a, r1, rfl, hl1⟩ := lenS hl
    obtain ⟨b, r2, rfl, hl2⟩ := lenS hl1
    obtain ⟨c, r3, rfl, hl3⟩ := lenS hl2
    rw [len0 hl3] at h ⊢
    replace h : (WqatcuNeutral.natural a 32 && WqatcuNeutral.natural b 32 && WqatcuNeutral.natural c 32) = true := h
    rw [Bool.and_eq_true, Bool.and_eq_true] at h
    have A := Asks.round (WqatcuNeutral.nat a) (WqatcuNeutral.nat b) (WqatcuNeutral.nat c)
    rw [nat_back h.1.1, nat_back h.1.2, nat_back h.2] at A
    exact ⟨_, A, rfl⟩
  · obtain ⟨a, r1, rfl, hl1⟩ := lenS hl
    obtain ⟨b, r2, rfl, hl2⟩ := lenS hl1
    obtain ⟨c, r3, rfl, hl3⟩ := lenS hl2
    rw [len0 hl3] at h ⊢
    replace h : (WqatcuNeutral.natural a 32 && WqatcuNeutral.natural b 32 && WqatcuNeutral.natural c 32) = true := h
    rw [Bool.and_eq_true, Bool.and_eq_true] at h
    have A := Asks.pair (WqatcuNeutral.nat a) (WqatcuNeutral.nat b) (WqatcuNeutral.nat c)
    rw [nat_back h.1.1, nat_back h.1.2, nat_back h.2] at A
    exact ⟨_, A, rfl⟩
  · obtain ⟨a, r1, rfl, hl1⟩ := lenS hl
    obtain ⟨b, r2, rfl, hl2⟩ := lenS hl1
    obtain ⟨x, r3, rfl, hl3⟩ := lenS hl2
    obtain ⟨y, r4, rfl, hl4⟩ := lenS hl3
    obtain ⟨c, r5, rfl, hl5⟩ := lenS hl4
    rw [len0 hl5] at h ⊢
    replace h : (WqatcuNeutral.natural a 32 && WqatcuNeutral.natural b 32 && WqatcuNeutral.whole32 x && WqatcuNeutral.whole32 y && WqatcuNeutral.natural c 32) = true := h
    rw [Bool.and_eq_true, Bool.and_eq_true, Bool.and_eq_true, Bool.and_eq_true] at h
    have A := Asks.zone (WqatcuNeutral.nat a) (WqatcuNeutral.nat b) ⟨x, y⟩ (WqatcuNeutral.nat c)
    rw [nat_back h.1.1.1.1, nat_back h.1.1.1.2, nat_back h.2] at A
    exact ⟨_, A, rfl⟩
  · obtain ⟨a, r1, rfl, hl1⟩ := lenS hl
    obtain ⟨b, r2, rfl, hl2⟩ := lenS hl1
    obtain ⟨x, r3, rfl, hl3⟩ := lenS hl2
    obtain ⟨y, r4, rfl, hl4⟩ := lenS hl3
    obtain ⟨x', r5, rfl, hl5⟩ := lenS hl4
    obtain ⟨y', r6, rfl, hl6⟩ := lenS hl5
    rw [len0 hl6] at h ⊢
    replace h : (WqatcuNeutral.natural a 32 && WqatcuNeutral.natural b 32 && WqatcuNeutral.whole32 x && WqatcuNeutral.whole32 y && WqatcuNeutral.whole32 x' && WqatcuNeutral.whole32 y') = true := h
    rw [Bool.and_eq_true, Bool.and_eq_true, Bool.and_eq_true, Bool.and_eq_true, Bool.and_eq_true] at h
    have A := Asks.over (WqatcuNeutral.nat a) (WqatcuNeutral.nat b) ⟨x, y⟩ ⟨x', y'⟩
    rw [nat_back h.1.1.1.1.1, nat_back h.1.1.1.1.2] at A
    exact ⟨_, A, rfl⟩
  · obtain ⟨a, r1, rfl, hl1⟩ := lenS hl
    obtain ⟨b, r2, rfl, hl2⟩ := lenS hl1
    obtain ⟨c, r3, rfl, hl3⟩ := lenS hl2
    rw [len0 hl3] at h ⊢
    replace h : (WqatcuNeutral.natural a 32 && WqatcuNeutral.natural b 32 && WqatcuNeutral.natural c 32) = true := h
    rw [Bool.and_eq_true, Bool.and_eq_true] at h
    have A := Asks.touch (WqatcuNeutral.nat a) (WqatcuNeutral.nat b) (WqatcuNeutral.nat c)
    rw [nat_back h.1.1, nat_back h.1.2, nat_back h.2] at A
    exact ⟨_, A, rfl⟩
end Bl
end
section
set_option maxHeartbeats 2000000
namespace Bl
open PySem PySem.Spec PyProof.Rows L2
def kdOk (es : Array DictEntry) : Bool := (es.toList.all fun e => match e.key with | .int k _ => decide (e.hash = hashInt k) | _ => false) &&
  (([2, 3, 4, 5, 6, 7, 8, 9, 10, 11, 12] : List Int).all fun k => match findBy Value.isInt es k with | some (.int j _) => decide (argF k = some j) | _ => false)
theorem kdict_of {K : PySem.W.Frag} {d : Addr} {es : Array DictEntry} {ep : Nat} (b : K.lookup d = some ⟨.type "dict", none, .dict es ep, #[]⟩) (c : kdOk es = true) : KDict K d argF := by
  unfold kdOk at c
  rw [Bool.and_eq_true, List.all_eq_true, List.all_eq_true] at c
  refine ⟨_, es, ep, b, ⟨rfl, rfl, rfl⟩, rfl, fun e he => ?_, fun k j hj => ?_⟩
  · have := c.1 e (Array.mem_toList_iff.mpr he)
    split at this
    · rename_i k t hk
      exact ⟨k, by rw [hk]; simp [Value.isInt], of_decide_eq_true this⟩
    · cases this
  · unfold argF at hj
    split at hj
    · rename_i hk
      have hm : k ∈ ([2, 3, 4, 5, 6, 7, 8, 9, 10, 11, 12] : List Int) := by
        have : k = 2 ∨ k = 3 ∨ k = 4 ∨ k = 5 ∨ k = 6 ∨ k = 7 ∨ k = 8 ∨ k = 9 ∨ k = 10 ∨ k = 11 ∨ k = 12 := by omega
        simpa using this
      have := c.2 k hm
      split at this
      · rename_i j' t' hf
        have e := of_decide_eq_true this
        unfold argF at e
        rw [if_pos hk] at e
        rw [e] at hj
        cases hj
        exact ⟨_, hf⟩
      · cases this
    · cases hj
end Bl
end
section
set_option maxHeartbeats 4000000
namespace Bl
open PySem PySem.Spec PyProof.Rows L2
theorem AnsAt.back {H H1 H' : Hp} {ans : List Int} {q : Addr} (s : Same H H1) (h : AnsAt H1 H' ans q) : AnsAt H H' ans q := ⟨s.free h.1, h.2⟩
theorem takenR_ne (l0 l : Rg.Log) (t : Rg.Bytes) : (takenR l0 l t).2 ≠ [] := by
  unfold takenR
  split
  · intro z; cases z
  · cases write l t <;> (intro z; cases z)
theorem head_tail {l : List Int} (h : l ≠ []) : l.headD 0 :: l.tail = l := by
  cases l with
  | nil => exact absurd rfl h
  | cons a r => rfl
theorem step_take (l : Rg.Log) (t : Rg.Bytes) : (Wqatcu.step l (.take t)).1 = (takenR l [] t).1 ∧ ansOf (Wqatcu.step l (.take t)).2 = (takenR l [] t).2 := by
  rw [taken_take]
  exact ⟨rfl, head_tail (takenR_ne _ _ _)⟩
theorem step_more {l : Rg.Log} (h : Held l) (t : Rg.Bytes) : (Wqatcu.step l (.more t)).1 = (takenR l l t).1 ∧ ansOf (Wqatcu.step l (.more t)).2 = (takenR l l t).2 := by
  rw [taken_more h]
  exact ⟨rfl, head_tail (takenR_ne _ _ _)⟩
theorem told_text (l : Rg.Log) : ansText l = ansOf (Wqatcu.told l .text) := rfl
theorem told_sizes (l : Rg.Log) : ansSizes l = ansOf (Wqatcu.told l .sizes) := rfl
theorem told_name (l : Rg.Log) (i : Nat) : ansName l i = ansOf (Wqatcu.told l (.name i)) := by
  unfold ansName
  show _ = ansOf (match (Rg.boats l)[i]? with | some n => Wqatcu.shown n | none => Wqatcu.NO)
  cases (Rg.boats l)[i]? <;> rfl
theorem told_boat (l : Rg.Log) (i m : Nat) : ansBoat l i m = ansOf (Wqatcu.told l (.boat i m)) := by
  unfold ansBoat
  show _ = ansOf (match (Rg.track l i)[m]? with | some x => Wqatcu.tells (Rg.hullNums x.2 ++ [x.1.x, x.1.y]) | none => Wqatcu.NO)
  cases (Rg.track l i)[m]? <;> rfl
theorem told_tack (l : Rg.Log) (i m : Nat) : ansTack l i m = ansOf (Wqatcu.told l (.tack i m)) := by
  unfold ansTack
  show _ = ansOf (match (Rg.tacks l i)[m]? with | some b => Wqatcu.says (if b = true then 1 else 2) | none => Wqatcu.NO)
  cases (Rg.tacks l i)[m]? <;> rfl
section
variable {P : Program} {w : World} {K : PySem.W.Frag} {mg : Str → Option Value} {base : Heap} {CL CM CB : Addr}
def spOne (CB CL CM : Addr) (lo : Int) : Sp := fun vs H Q _ => ∃ (pb g : Addr) (S : List Addr) (l : Rg.Log) (p : Int) (gs : List Int) (x : Wqatcu.Call), vs = [.ref pb, .int p, .ref g] ∧ lo ≤ p ∧ BookAt CB CL CM S H pb l ∧ H g = some (.lst (gs.map V.int)) ∧ gs.length ≤ 65536 ∧ Asks p gs x ∧
  ∀ (H' : Hp) (q : Addr), Keep [pb] H H' → BookAt CB CL CM S H' pb (Wqatcu.step l x).1 → AnsAt H H' (ansOf (Wqatcu.step l x).2) q → Q (.ref q) H'
theorem sc_sail : FnScope ["book", "call", "given"] ["book", "call", "given"] (defScope s_answer_sailing) := ⟨rfl, rfl, rfl, by decide +kernel, rfl, by decide +kernel, by decide +kernel⟩
theorem sc_one : FnScope ["book", "call", "given"] ["book", "call", "given"] (defScope s_answer_one) := ⟨rfl, rfl, rfl, by decide +kernel, rfl, by decide +kernel, by decide +kernel⟩
theorem ok_sail (F : FunG K mg "answer_sailing" s_answer_sailing ["book", "call", "given"]) (T : Txt mg) (C : Cs K CL CM CB) (ON : OkM P w K mg base CB 5 "next_change" ["self", "i", "m"] (spR2 CB CL CM fun l i m => ansOf (Wqatcu.told l (.next i m)))) (OR : OkM P w K mg base CB 5 "rounds_made" ["self", "i", "m", "k"] (spR3 CB CL CM fun l i m k => ansOf (Wqatcu.told l (.round i m k))))
    (OP : OkM P w K mg base CB 5 "pair" ["self", "i", "j", "m"] (spR3 CB CL CM fun l i j m => ansOf (Wqatcu.told l (.pair i j m)))) (OZ : OkM P w K mg base CB 5 "zone" ["self", "i", "m", "place", "k"] (spZ CB CL CM)) (OV : OkM P w K mg base CB 4 "over" ["self", "i", "m", "p", "q"] (spO CB CL CM)) (OT : OkM P w K mg base CB 5 "touch" ["self", "i", "j", "m"] (spR3 CB CL CM fun l i j m => ansOf (Wqatcu.told l (.touch i j m)))) :
    Ok P w K mg base 6 "answer_sailing" ["book", "call", "given"] (spOne CB CL CM 7) := by
  refine F.ok sc_sail (fun vs H Q E h => ?_) (fun f cdv A outer s H vs Q E hr h => ?_)
  · obtain ⟨pb, g, S, l, p, gs, x, rfl, _⟩ := h
    rfl
  · obtain ⟨pb, g, S, l, p, gs, x, rfl, hlo, B, hg, hlen, ask, k⟩ := h
    have h5 := hr
    have h4 := hr.mono (show 4 ≤ 5 by decide)
    refine ⟨_, (pss_cons (ps_if (pt_cmpR op_eq (pv 1) (pe_gi T.c_NEXT) (nomark _)) (pss_one (ps_ret (pe_mt C.cB ON h5 (pv 0) (pa_cons (pe_ix ix_list (pv 2) pe_int (fun _ _ => rfl)) (pa_cons (pe_ix ix_list (pv 2) pe_int (fun _ _ => rfl)) pa_nil))))) pss_nil)
      (pss_cons (ps_if (pt_cmpR op_eq (pv 1) (pe_gi T.c_ROUND) (nomark _)) (pss_one (ps_ret (pe_mt C.cB OR h5 (pv 0) (pa_cons (pe_ix ix_list (pv 2) pe_int (fun _ _ => rfl)) (pa_cons (pe_ix ix_list (pv 2) pe_int (fun _ _ => rfl)) (pa_cons (pe_ix ix_list (pv 2) pe_int (fun _ _ => rfl)) pa_nil)))))) pss_nil)
      (pss_cons (ps_if (pt_cmpR op_eq (pv 1) (pe_gi T.c_PAIR) (nomark _)) (pss_one (ps_ret (pe_mt C.cB OP h5 (pv 0) (pa_cons (pe_ix ix_list (pv 2) pe_int (fun _ _ => rfl)) (pa_cons (pe_ix ix_list (pv 2) pe_int (fun _ _ => rfl)) (pa_cons (pe_ix ix_list (pv 2) pe_int (fun _ _ => rfl)) pa_nil)))))) pss_nil)
      (pss_cons (ps_if (pt_cmpR op_eq (pv 1) (pe_gi T.c_ZONE) (nomark _)) (pss_one (ps_ret (pe_mt C.cB OZ h5 (pv 0) (pa_cons (pe_ix ix_list (pv 2) pe_int (fun _ _ => rfl)) (pa_cons (pe_ix ix_list (pv 2) pe_int (fun _ _ => rfl)) (pa_cons (pe_tup (pa_cons (pe_ix ix_list (pv 2) pe_int (fun _ _ => rfl)) (pa_cons (pe_ix ix_list (pv 2) pe_int (fun _ _ => rfl)) pa_nil))) (pa_cons (pe_ix ix_list (pv 2) pe_int (fun _ _ => rfl)) pa_nil))))))) pss_nil)
      (pss_cons (ps_if (pt_cmpR op_eq (pv 1) (pe_gi T.c_OVER) (nomark _)) (pss_one (ps_ret (pe_mt C.cB OV h4 (pv 0) (pa_cons (pe_ix ix_list (pv 2) pe_int (fun _ _ => rfl)) (pa_cons (pe_ix ix_list (pv 2) pe_int (fun _ _ => rfl)) (pa_cons (pe_tup (pa_cons (pe_ix ix_list (pv 2) pe_int (fun _ _ => rfl)) (pa_cons (pe_ix ix_list (pv 2) pe_int (fun _ _ => rfl)) pa_nil))) (pa_cons (pe_tup (pa_cons (pe_ix ix_list (pv 2) pe_int (fun _ _ => rfl)) (pa_cons (pe_ix ix_list (pv 2) pe_int (fun _ _ => rfl)) pa_nil))) pa_nil))))))) pss_nil)
      (pss_one (ps_ret (pe_mt C.cB OT h5 (pv 0) (pa_cons (pe_ix ix_list (pv 2) pe_int (fun _ _ => rfl)) (pa_cons (pe_ix ix_list (pv 2) pe_int (fun _ _ => rfl)) (pa_cons (pe_ix ix_list (pv 2) pe_int (fun _ _ => rfl)) pa_nil))))))))))), ?_⟩
    obtain ⟨dxb, pl, M, b1, L⟩ := B.ex
    have fin : ∀ {H' : Hp} {q : Addr} {H1 : Hp}, (Wqatcu.step l x).1 = l → Same H H1 → Same H1 H' → AnsAt H1 H' (ansOf (Wqatcu.step l x).2) q → Q (.ref q) H' := fun e s1 s2 a => k _ _ (Keep.of (s1.trans s2)) (by rw [e]; exact B.same (s1.trans s2)) (a.back s1)
    cases ask with
    | take t => exact absurd hlo (by decide)
    | more t => exact absurd hlo (by decide)
    | text => exact absurd hlo (by decide)
    | sizes => exact absurd hlo (by decide)
    | name i => exact absurd hlo (by decide)
    | boat i m => exact absurd hlo (by decide)
    | tack i m => exact absurd hlo (by decide)
    | next i m => exact ⟨_, rfl, rfl, _, rfl, iteT ⟨_, rfl, pb, dxb, _, rfl, b1, rfl, _, rfl, g, _, _, V.int _, rfl, rfl, SqL.of hg, rfl, _, rfl, g, _, _, V.int _, rfl, rfl, SqL.of hg, rfl, pb, S, l, i, m, rfl, B, fun H' q s a => fin rfl (Same.refl _) s a⟩⟩
    | round i m n => exact ⟨_, rfl, rfl, _, rfl, iteF ⟨_, rfl, rfl, _, rfl, iteT ⟨_, rfl, pb, dxb, _, rfl, b1, rfl, _, rfl, g, _, _, V.int _, rfl, rfl, SqL.of hg, rfl, _, rfl, g, _, _, V.int _, rfl, rfl, SqL.of hg, rfl, _, rfl, g, _, _, V.int _, rfl, rfl, SqL.of hg, rfl, pb, S, l, i, m, n, rfl, B, fun H' q s a => fin rfl (Same.refl _) s a⟩⟩⟩
    | pair i j m => exact ⟨_, rfl, rfl, _, rfl, iteF ⟨_, rfl, rfl, _, rfl, iteF ⟨_, rfl, rfl, _, rfl, iteT ⟨_, rfl, pb, dxb, _, rfl, b1, rfl, _, rfl, g, _, _, V.int _, rfl, rfl, SqL.of hg, rfl, _, rfl, g, _, _, V.int _, rfl, rfl, SqL.of hg, rfl, _, rfl, g, _, _, V.int _, rfl, rfl, SqL.of hg, rfl, pb, S, l, i, j, m, rfl, B, fun H' q s a => fin rfl (Same.refl _) s a⟩⟩⟩⟩
    | zone i m c n => exact ⟨_, rfl, rfl, _, rfl, iteF ⟨_, rfl, rfl, _, rfl, iteF ⟨_, rfl, rfl, _, rfl, iteF ⟨_, rfl, rfl, _, rfl, iteT ⟨_, rfl, pb, dxb, _, rfl, b1, rfl, _, rfl, g, _, _, V.int _, rfl, rfl, SqL.of hg, rfl, _, rfl, g, _, _, V.int _, rfl, rfl, SqL.of hg, rfl, _, rfl, g, _, _, V.int _, rfl, rfl, SqL.of hg, rfl, _, rfl, g, _, _, V.int _, rfl, rfl, SqL.of hg, rfl, (by show 2 ≤ sizeLine; decide), fun t ht => ⟨_, rfl, g, _, _, V.int _, rfl, rfl, SqL.of (Same.new ht _ _ hg), rfl, pb, t, S, l, i, m, n, c, rfl, B.same (Same.new ht), upd_same, fun H' q s a => fin rfl (Same.new ht) s a⟩⟩⟩⟩⟩⟩
    | over i m pp qq => exact ⟨_, rfl, rfl, _, rfl, iteF ⟨_, rfl, rfl, _, rfl, iteF ⟨_, rfl, rfl, _, rfl, iteF ⟨_, rfl, rfl, _, rfl, iteF ⟨_, rfl, rfl, _, rfl, iteT ⟨_, rfl, pb, dxb, _, rfl, b1, rfl, _, rfl, g, _, _, V.int _, rfl, rfl, SqL.of hg, rfl, _, rfl, g, _, _, V.int _, rfl, rfl, SqL.of hg, rfl, _, rfl, g, _, _, V.int _, rfl, rfl, SqL.of hg, rfl, _, rfl, g, _, _, V.int _, rfl, rfl, SqL.of hg, rfl, (by show 2 ≤ sizeLine; decide), fun t ht => ⟨_, rfl, g, _, _, V.int _, rfl, rfl, SqL.of (Same.new ht _ _ hg), rfl, _, rfl, g, _, _, V.int _, rfl, rfl, SqL.of (Same.new ht _ _ hg), rfl, (by show 2 ≤ sizeLine; decide), fun u hu => ⟨pb, t, u, S, l, i, m, pp, qq, rfl, B.same ((Same.new ht).trans (Same.new hu)), Same.new hu _ _ upd_same, upd_same, fun H' q s a => fin rfl ((Same.new ht).trans (Same.new hu)) s a⟩⟩⟩⟩⟩⟩⟩⟩
    | touch i j m => exact ⟨_, rfl, rfl, _, rfl, iteF ⟨_, rfl, rfl, _, rfl, iteF ⟨_, rfl, rfl, _, rfl, iteF ⟨_, rfl, rfl, _, rfl, iteF ⟨_, rfl, rfl, _, rfl, iteF ⟨_, rfl, pb, dxb, _, rfl, b1, rfl, _, rfl, g, _, _, V.int _, rfl, rfl, SqL.of hg, rfl, _, rfl, g, _, _, V.int _, rfl, rfl, SqL.of hg, rfl, _, rfl, g, _, _, V.int _, rfl, rfl, SqL.of hg, rfl, pb, S, l, i, j, m, rfl, B, fun H' q s a => fin rfl (Same.refl _) s a⟩⟩⟩⟩⟩⟩
theorem ok_one (F : FunG K mg "answer_one" s_answer_one ["book", "call", "given"]) (T : Txt mg) (C : Cs K CL CM CB) (OTk : OkM P w K mg base CB 10 "take" ["self", "text"] (spTake CB CL CM)) (OMo : OkM P w K mg base CB 10 "more" ["self", "text"] (spMore CB CL CM)) (OTx : OkM P w K mg base CB 1 "text" ["self"] (spR0 CB CL CM ansText)) (OSz : OkM P w K mg base CB 1 "sizes" ["self"] (spR0 CB CL CM ansSizes))
    (ONm : OkM P w K mg base CB 2 "name" ["self", "i"] (spR1 CB CL CM ansName)) (OBt : OkM P w K mg base CB 2 "boat" ["self", "i", "m"] (spR2 CB CL CM ansBoat)) (OTa : OkM P w K mg base CB 2 "tack" ["self", "i", "m"] (spR2 CB CL CM ansTack)) (OS : Ok P w K mg base 6 "answer_sailing" ["book", "call", "given"] (spOne CB CL CM 7)) :
    Ok P w K mg base 11 "answer_one" ["book", "call", "given"] (spOne CB CL CM 0) := by
  refine F.ok sc_one (fun vs H Q E h => ?_) (fun f cdv A outer s H vs Q E hr h => ?_)
  · obtain ⟨pb, g, S, l, p, gs, x, rfl, _⟩ := h
    rfl
  · obtain ⟨pb, g, S, l, p, gs, x, rfl, hlo, B, hg, hlen, ask, k⟩ := h
    have h10 := hr
    have h6 := hr.mono (show 6 ≤ 10 by decide)
    have h2 := hr.mono (show 2 ≤ 10 by decide)
    have h1 := hr.mono (show 1 ≤ 10 by decide)
    refine ⟨_, (pss_cons (ps_if (pt_cmpR op_eq (pv 1) (pe_gi T.c_TAKE) (nomark _)) (pss_one (ps_ret (pe_mt C.cB OTk h10 (pv 0) (pa_cons (pv 2) pa_nil)))) pss_nil)
      (pss_cons (ps_if (pt_cmpR op_eq (pv 1) (pe_gi T.c_MORE) (nomark _)) (pss_one (ps_ret (pe_mt C.cB OMo h10 (pv 0) (pa_cons (pv 2) pa_nil)))) pss_nil)
      (pss_cons (ps_if (pt_cmpR op_eq (pv 1) (pe_gi T.c_TEXT) (nomark _)) (pss_one (ps_ret (pe_mt0 C.cB OTx h1 (pv 0)))) pss_nil)
      (pss_cons (ps_if (pt_cmpR op_eq (pv 1) (pe_gi T.c_SIZES) (nomark _)) (pss_one (ps_ret (pe_mt0 C.cB OSz h1 (pv 0)))) pss_nil)
      (pss_cons (ps_if (pt_cmpR op_eq (pv 1) (pe_gi T.c_NAME) (nomark _)) (pss_one (ps_ret (pe_mt C.cB ONm h2 (pv 0) (pa_cons (pe_ix ix_list (pv 2) pe_int (fun _ _ => rfl)) pa_nil)))) pss_nil)
      (pss_cons (ps_if (pt_cmpR op_eq (pv 1) (pe_gi T.c_BOAT_desk) (nomark _)) (pss_one (ps_ret (pe_mt C.cB OBt h2 (pv 0) (pa_cons (pe_ix ix_list (pv 2) pe_int (fun _ _ => rfl)) (pa_cons (pe_ix ix_list (pv 2) pe_int (fun _ _ => rfl)) pa_nil))))) pss_nil)
      (pss_cons (ps_if (pt_cmpR op_eq (pv 1) (pe_gi T.c_TACK) (nomark _)) (pss_one (ps_ret (pe_mt C.cB OTa h2 (pv 0) (pa_cons (pe_ix ix_list (pv 2) pe_int (fun _ _ => rfl)) (pa_cons (pe_ix ix_list (pv 2) pe_int (fun _ _ => rfl)) pa_nil))))) pss_nil)
      (pss_one (ps_ret (pe_fn OS h6 (pa_cons (pv 0) (pa_cons (pv 1) (pa_cons (pv 2) pa_nil))))))))))))), ?_⟩
    obtain ⟨dxb, pl, M, b1, L⟩ := B.ex
    have fin : ∀ {H' : Hp} {q : Addr}, (Wqatcu.step l x).1 = l → Same H H' → AnsAt H H' (ansOf (Wqatcu.step l x).2) q → Q (.ref q) H' := fun e s a => k _ _ (Keep.of s) (by rw [e]; exact B.same s) a
    cases ask with
    | take t => exact ⟨_, rfl, rfl, _, rfl, iteT ⟨_, rfl, pb, dxb, _, rfl, b1, rfl, _, rfl, pb, g, S, l, t, rfl, B, (by show H g = _; rw [bytes_ints]; exact hg), (by rw [List.length_map] at hlen; exact hlen), fun H' q kp b a => k _ _ kp (by rw [(step_take l t).1]; exact b) (by rw [(step_take l t).2]; exact a)⟩⟩
    | more t => exact ⟨_, rfl, rfl, _, rfl, iteF ⟨_, rfl, rfl, _, rfl, iteT ⟨_, rfl, pb, dxb, _, rfl, b1, rfl, _, rfl, pb, g, S, l, t, rfl, B, (by show H g = _; rw [bytes_ints]; exact hg), (by rw [List.length_map] at hlen; exact hlen), fun H' q kp b a => k _ _ kp (by rw [(step_more B.held t).1]; exact b) (by rw [(step_more B.held t).2]; exact a)⟩⟩⟩
    | text => exact ⟨_, rfl, rfl, _, rfl, iteF ⟨_, rfl, rfl, _, rfl, iteF ⟨_, rfl, rfl, _, rfl, iteT ⟨_, rfl, pb, dxb, _, rfl, b1, rfl, pb, S, l, rfl, B, fun H' q s a => fin rfl s (by rw [told_text] at a; exact a)⟩⟩⟩⟩
    | sizes => exact ⟨_, rfl, rfl, _, rfl, iteF ⟨_, rfl, rfl, _, rfl, iteF ⟨_, rfl, rfl, _, rfl, iteF ⟨_, rfl, rfl, _, rfl, iteT ⟨_, rfl, pb, dxb, _, rfl, b1, rfl, pb, S, l, rfl, B, fun H' q s a => fin rfl s (by rw [told_sizes] at a; exact a)⟩⟩⟩⟩⟩
    | name i => exact ⟨_, rfl, rfl, _, rfl, iteF ⟨_, rfl, rfl, _, rfl, iteF ⟨_, rfl, rfl, _, rfl, iteF ⟨_, rfl, rfl, _, rfl, iteF ⟨_, rfl, rfl, _, rfl, iteT ⟨_, rfl, pb, dxb, _, rfl, b1, rfl, _, rfl, g, _, _, V.int _, rfl, rfl, SqL.of hg, rfl, pb, S, l, i, rfl, B, fun H' q s a => fin rfl s (by rw [told_name] at a; exact a)⟩⟩⟩⟩⟩⟩
    | boat i m => exact ⟨_, rfl, rfl, _, rfl, iteF ⟨_, rfl, rfl, _, rfl, iteF ⟨_, rfl, rfl, _, rfl, iteF ⟨_, rfl, rfl, _, rfl, iteF ⟨_, rfl, rfl, _, rfl, iteF ⟨_, rfl, rfl, _, rfl, iteT ⟨_, rfl, pb, dxb, _, rfl, b1, rfl, _, rfl, g, _, _, V.int _, rfl, rfl, SqL.of hg, rfl, _, rfl, g, _, _, V.int _, rfl, rfl, SqL.of hg, rfl, pb, S, l, i, m, rfl, B, fun H' q s a => fin rfl s (by rw [told_boat] at a; exact a)⟩⟩⟩⟩⟩⟩⟩
    | tack i m => exact ⟨_, rfl, rfl, _, rfl, iteF ⟨_, rfl, rfl, _, rfl, iteF ⟨_, rfl, rfl, _, rfl, iteF ⟨_, rfl, rfl, _, rfl, iteF ⟨_, rfl, rfl, _, rfl, iteF ⟨_, rfl, rfl, _, rfl, iteF ⟨_, rfl, rfl, _, rfl, iteT ⟨_, rfl, pb, dxb, _, rfl, b1, rfl, _, rfl, g, _, _, V.int _, rfl, rfl, SqL.of hg, rfl, _, rfl, g, _, _, V.int _, rfl, rfl, SqL.of hg, rfl, pb, S, l, i, m, rfl, B, fun H' q s a => fin rfl s (by rw [told_tack] at a; exact a)⟩⟩⟩⟩⟩⟩⟩⟩
    | next i m => exact ⟨_, rfl, rfl, _, rfl, iteF ⟨_, rfl, rfl, _, rfl, iteF ⟨_, rfl, rfl, _, rfl, iteF ⟨_, rfl, rfl, _, rfl, iteF ⟨_, rfl, rfl, _, rfl, iteF ⟨_, rfl, rfl, _, rfl, iteF ⟨_, rfl, rfl, _, rfl, iteF ⟨_, rfl, _, rfl, _, rfl, pb, g, S, l, _, _, _, rfl, (by decide), B, hg, hlen, (.next i m), k⟩⟩⟩⟩⟩⟩⟩⟩
    | round i m n => exact ⟨_, rfl, rfl, _, rfl, iteF ⟨_, rfl, rfl, _, rfl, iteF ⟨_, rfl, rfl, _, rfl, iteF ⟨_, rfl, rfl, _, rfl, iteF ⟨_, rfl, rfl, _, rfl, iteF ⟨_, rfl, rfl, _, rfl, iteF ⟨_, rfl, rfl, _, rfl, iteF ⟨_, rfl, _, rfl, _, rfl, pb, g, S, l, _, _, _, rfl, (by decide), B, hg, hlen, (.round i m n), k⟩⟩⟩⟩⟩⟩⟩⟩
    | pair i j m => exact ⟨_, rfl, rfl, _, rfl, iteF ⟨_, rfl, rfl, _, rfl, iteF ⟨_, rfl, rfl, _, rfl, iteF ⟨_, rfl, rfl, _, rfl, iteF ⟨_, rfl, rfl, _, rfl, iteF ⟨_, rfl, rfl, _, rfl, iteF ⟨_, rfl, rfl, _, rfl, iteF ⟨_, rfl, _, rfl, _, rfl, pb, g, S, l, _, _, _, rfl, (by decide), B, hg, hlen, (.pair i j m), k⟩⟩⟩⟩⟩⟩⟩⟩
    | zone i m c n => exact ⟨_, rfl, rfl, _, rfl, iteF ⟨_, rfl, rfl, _, rfl, iteF ⟨_, rfl, rfl, _, rfl, iteF ⟨_, rfl, rfl, _, rfl, iteF ⟨_, rfl, rfl, _, rfl, iteF ⟨_, rfl, rfl, _, rfl, iteF ⟨_, rfl, rfl, _, rfl, iteF ⟨_, rfl, _, rfl, _, rfl, pb, g, S, l, _, _, _, rfl, (by decide), B, hg, hlen, (.zone i m c n), k⟩⟩⟩⟩⟩⟩⟩⟩
    | over i m pp qq => exact ⟨_, rfl, rfl, _, rfl, iteF ⟨_, rfl, rfl, _, rfl, iteF ⟨_, rfl, rfl, _, rfl, iteF ⟨_, rfl, rfl, _, rfl, iteF ⟨_, rfl, rfl, _, rfl, iteF ⟨_, rfl, rfl, _, rfl, iteF ⟨_, rfl, rfl, _, rfl, iteF ⟨_, rfl, _, rfl, _, rfl, pb, g, S, l, _, _, _, rfl, (by decide), B, hg, hlen, (.over i m pp qq), k⟩⟩⟩⟩⟩⟩⟩⟩
    | touch i j m => exact ⟨_, rfl, rfl, _, rfl, iteF ⟨_, rfl, rfl, _, rfl, iteF ⟨_, rfl, rfl, _, rfl, iteF ⟨_, rfl, rfl, _, rfl, iteF ⟨_, rfl, rfl, _, rfl, iteF ⟨_, rfl, rfl, _, rfl, iteF ⟨_, rfl, rfl, _, rfl, iteF ⟨_, rfl, _, rfl, _, rfl, pb, g, S, l, _, _, _, rfl, (by decide), B, hg, hlen, (.touch i j m), k⟩⟩⟩⟩⟩⟩⟩⟩
end
end Bl
end
section
set_option maxHeartbeats 4000000
namespace Bl
open PySem PySem.Spec PyProof.Rows L2
theorem BookAt.grow {CB CL CM : Addr} {S : List Addr} {H : Hp} {pb t : Addr} {o : HO} {l : Rg.Log} (B : BookAt CB CL CM S H pb l) (ht : H t = none) : BookAt CB CL CM (t :: S) (upd H t o) pb l := by
  obtain ⟨dxb, pl, M, b1, L⟩ := B.ex
  have s : Same H (upd H t o) := Same.new ht
  obtain ⟨dx, aw, an, ad, am, eM, h1, h2, h3, h4, h5⟩ := L.ex
  have tM : t ∉ M := fun z => L.fresh ht (List.mem_append_left _ z)
  have so : Same (Off (M ++ S) H) (Off (M ++ (t :: S)) (upd H t o)) := fun b u e => by
    obtain ⟨e1, e2⟩ := Off.inv e
    refine Off.mk (s _ _ e2) fun z => ?_
    rcases List.mem_append.mp z with z | z
    · exact e1 (List.mem_append_left _ z)
    · rcases List.mem_cons.mp z with z | z
      · rw [z, ht] at e2; cases e2
      · exact e1 (List.mem_append_right _ z)
  refine ⟨⟨dxb, pl, M, s _ _ b1, ⟨dx, aw, an, ad, am, eM, s _ _ h1, h2.same s, h3.same s (fun _ _ => BytesAt.same so), h4.same s (fun _ _ => PtAt.same so), h5.same s (fun _ _ => MomAt.same so)⟩, L.nd, fun b hb hz => ?_, fun b hb => ?_⟩, List.mem_cons_of_mem _ B.inS, B.fit, B.ok, B.held, B.size⟩
  · rcases List.mem_cons.mp hz with z | z
    · exact tM (by rw [← z]; exact hb)
    · exact L.ns b hb z
  · rcases List.mem_cons.mp hb with z | z
    · exact ⟨_, by rw [z]; exact upd_same⟩
    · obtain ⟨u, hu⟩ := L.live b z
      exact ⟨u, s _ _ hu⟩
theorem BookAt.updS {CB CL CM : Addr} {S : List Addr} {H : Hp} {pb t : Addr} {o : HO} {l : Rg.Log} (B : BookAt CB CL CM S H pb l) (ht : t ∈ S) (hn : t ≠ pb) : BookAt CB CL CM S (upd H t o) pb l := by
  obtain ⟨dxb, pl, M, b1, L⟩ := B.ex
  obtain ⟨dx, aw, an, ad, am, eM, f1, f2, ⟨as, f3, f3'⟩, ⟨ws, f4, f4'⟩, ⟨ms, f5, f5'⟩⟩ := L.ex
  have eo : Off (M ++ S) (upd H t o) = Off (M ++ S) H := Off.upd (List.mem_append_right _ ht)
  have ne : ∀ {b : Addr}, b ∈ M → b ≠ t := fun hb z => L.ns _ hb (by rw [z]; exact ht)
  refine ⟨⟨dxb, pl, M, by rw [upd_ne (Ne.symm hn)]; exact b1, ⟨dx, aw, an, ad, am, eM, by rw [upd_ne (ne (by rw [eM]; simp))]; exact f1, by show upd _ _ _ _ = _; rw [upd_ne (ne (by rw [eM]; simp))]; exact f2, ⟨as, by rw [upd_ne (ne (by rw [eM]; simp))]; exact f3, by rw [eo]; exact f3'⟩,
    ⟨ws, by rw [upd_ne (ne (by rw [eM]; simp))]; exact f4, by rw [eo]; exact f4'⟩, ⟨ms, by rw [upd_ne (ne (by rw [eM]; simp))]; exact f5, by rw [eo]; exact f5'⟩⟩, L.nd, L.ns, fun z hz => ?_⟩, B.inS, B.fit, B.ok, B.held, B.size⟩
  by_cases hz' : z = t
  · exact ⟨_, by rw [hz']; exact upd_same⟩
  · obtain ⟨u, hu⟩ := L.live z hz
    exact ⟨u, by rw [upd_ne hz']; exact hu⟩
theorem takenR_len (l0 l : Rg.Log) (t : Rg.Bytes) : (takenR l0 l t).2.length ≤ 3 := by
  unfold takenR
  split
  · show 1 ≤ 3; decide
  · cases write l t
    · show 3 ≤ 3; decide
    · show 1 ≤ 3; decide
theorem ans_len {l : Rg.Log} (A : AllOk l) (h : Held l) {p : Int} {gs : List Int} {x : Wqatcu.Call} (a : Asks p gs x) : (ansOf (Wqatcu.step l x).2).length ≤ (Rg.logText l).length + 20 := by
  cases a with
  | take t =>
    rw [(step_take l t).2]
    have := takenR_len l [] t
    omega
  | more t =>
    rw [(step_more h t).2]
    have := takenR_len l l t
    omega
  | text =>
    show (ansText l).length ≤ _
    unfold ansText
    rw [List.length_cons, List.length_map]
    omega
  | sizes => show 4 ≤ _; omega
  | name i =>
    show (ansOf (Wqatcu.told l (.name i))).length ≤ _
    rw [← told_name]
    unfold ansName
    cases e : (Rg.boats l)[i]? with
    | none => show 1 ≤ _; omega
    | some n =>
      have := name_short A (List.mem_of_getElem? e)
      show ((n.length : Int) :: n.map bI).length ≤ _
      rw [List.length_cons, List.length_map]
      omega
  | boat i m =>
    show (ansOf (Wqatcu.told l (.boat i m))).length ≤ _
    rw [← told_boat]
    unfold ansBoat
    cases (Rg.track l i)[m]? with
    | none => show 1 ≤ _; omega
    | some x => show 7 ≤ _; omega
  | tack i m =>
    show (ansOf (Wqatcu.told l (.tack i m))).length ≤ _
    rw [← told_tack]
    unfold ansTack
    cases (Rg.tacks l i)[m]? with
    | none => show 1 ≤ _; omega
    | some x => show 1 ≤ _; omega
  | next i m =>
    show (ansOf (Wqatcu.told l (.next i m))).length ≤ _
    by_cases hb : here l i m
    · rw [next_yes hb]
      cases Rg.firstFrom (m + 1) (Rg.moments l).length fun (k : Nat) => Rg.changeAt l i k != 0 with
      | none => show 1 ≤ _; omega
      | some k => show 3 ≤ _; omega
    · rw [next_no hb]; show 1 ≤ _; omega
  | round i m k =>
    show (ansOf (Wqatcu.told l (.round i m k))).length ≤ _
    by_cases h1 : k < m
    · rw [round_wrong h1]; show 1 ≤ _; omega
    · by_cases hb : here l i k
      · rw [round_yes h1 hb]; show 2 ≤ _; omega
      · rw [round_no h1 hb]; show 1 ≤ _; omega
  | pair i j m =>
    show (ansOf (if i = j then Wqatcu.WRONG else match (Rg.track l i)[m]?, (Rg.track l j)[m]? with | some x, some y => Wqatcu.tells [Wqatcu.int (Rg.place x.2 y.2), Wqatcu.int (Rg.lee x.2 y.2 x.1), if Rg.touch x.2 y.2 = true then 1 else 0] | _, _ => Wqatcu.NO)).length ≤ _
    by_cases h1 : i = j
    · rw [if_pos h1]; show 1 ≤ _; omega
    · rw [if_neg h1]
      cases (Rg.track l i)[m]? with
      | none => show 1 ≤ _; omega
      | some x =>
        cases (Rg.track l j)[m]? with
        | none => show 1 ≤ _; omega
        | some y => show 4 ≤ _; omega
  | zone i m c k =>
    show (ansOf (if c.ok = false ∨ 64 < k then Wqatcu.WRONG else match (Rg.track l i)[m]? with | some x => Wqatcu.says (if Rg.inZone x.2 c k = true then 1 else 0) | none => Wqatcu.NO)).length ≤ _
    by_cases h1 : c.ok = false ∨ 64 < k
    · rw [if_pos h1]; show 1 ≤ _; omega
    · rw [if_neg h1]
      cases (Rg.track l i)[m]? with
      | none => show 1 ≤ _; omega
      | some x => show 1 ≤ _; omega
  | over i m p q =>
    show (ansOf (Wqatcu.told l (.over i m p q))).length ≤ _
    by_cases h1 : p.ok = true ∧ q.ok = true ∧ p ≠ q
    · by_cases hb : here l i m
      · rw [over_yes h1 hb]
        cases Rg.firstFrom m (Rg.moments l).length fun (k : Nat) => (Rg.overAt l i p q k).isSome with
        | none => show 1 ≤ _; omega
        | some k =>
          show (0 :: (k : Int) :: ((Rg.overAt l i p q k).map pairI).getD []).length ≤ _
          cases Rg.overAt l i p q k with
          | none => show 2 ≤ _; omega
          | some f => show 4 ≤ _; omega
      · rw [over_no h1 hb]; show 1 ≤ _; omega
    · rw [over_wrong h1]; show 1 ≤ _; omega
  | touch i j m =>
    show (ansOf (Wqatcu.told l (.touch i j m))).length ≤ _
    by_cases h1 : i = j
    · rw [touch_wrong h1]; show 1 ≤ _; omega
    · by_cases hb : here l i m ∧ here l j m
      · rw [touch_yes h1 hb]
        cases Rg.firstFrom m (Rg.moments l).length fun (k : Nat) => Rg.touchAt l i j k with
        | none => show 1 ≤ _; omega
        | some k => show 2 ≤ _; omega
      · rw [touch_no h1 hb]; show 1 ≤ _; omega
theorem takenR_text (l0 l : Rg.Log) (t : Rg.Bytes) (n : Nat) (h0 : (Rg.logText l0).length ≤ n) (h : (Rg.logText l).length + t.length ≤ n) : (Rg.logText (takenR l0 l t).1).length ≤ n := by
  unfold takenR
  split
  · exact h0
  · cases hw : write l t with
    | error e => exact h0
    | ok m =>
      show (Rg.logText m).length ≤ n
      rw [write_text hw, List.length_append]
      exact h
theorem text_len {l : Rg.Log} (h : Held l) {p : Int} {gs : List Int} {x : Wqatcu.Call} (a : Asks p gs x) : (Rg.logText (Wqatcu.step l x).1).length ≤ (Rg.logText l).length + gs.length := by
  cases a with
  | take t =>
    rw [(step_take l t).1, List.length_map]
    exact takenR_text l [] t _ (by omega) (by show 0 + _ ≤ _; omega)
  | more t =>
    rw [(step_more h t).1, List.length_map]
    exact takenR_text l l t _ (by omega) (by omega)
  | text => exact Nat.le_add_right _ _
  | sizes => exact Nat.le_add_right _ _
  | name i => exact Nat.le_add_right _ _
  | boat i m => exact Nat.le_add_right _ _
  | tack i m => exact Nat.le_add_right _ _
  | next i m => exact Nat.le_add_right _ _
  | round i m k => exact Nat.le_add_right _ _
  | pair i j m => exact Nat.le_add_right _ _
  | zone i m c k => exact Nat.le_add_right _ _
  | over i m p q => exact Nat.le_add_right _ _
  | touch i j m => exact Nat.le_add_right _ _
theorem drop_more {α : Type} {ns r : List α} {p : α} {i : Nat} (h : ns.drop i = p :: r) : i < ns.length ∧ ns[i]? = some p ∧ ns.drop (i + 1) = r := by
  have hi : i < ns.length := by
    by_cases z : i < ns.length
    · exact z
    · rw [List.drop_eq_nil_of_le (by omega)] at h; cases h
  refine ⟨hi, ?_, ?_⟩
  · have : (ns.drop i)[0]? = some p := by rw [h]; rfl
    rw [List.getElem?_drop] at this
    exact this
  · rw [← List.drop_drop, h]
    rfl
theorem call_step {ns r : List Int} {i k : Nat} {p : Int} {cs : List (List (List Int))} (hd : ns.drop i = p :: r) (L : Left k (p :: r) cs) : ∃ (f n k' : Nat) (cs' : List (List (List Int))) (x : Wqatcu.Call), k = k' + 1 ∧ i < f ∧ f + n ≤ ns.length ∧ (if isRow p = true then (i : Int) + 2 else (i : Int) + 1) = (f : Int) ∧
    (if isRow p = true then ns[i + 1]? = some (n : Int) else argF p = some (n : Int)) ∧ Asks p ((ns.drop f).take n) x ∧ 0 ≤ p ∧ Left k' (ns.drop (f + n)) cs' ∧ ∀ s, PyFlat.played WqatcuNeutral.step s cs = ansOf (Wqatcu.step s x).2 :: PyFlat.played WqatcuNeutral.step (Wqatcu.step s x).1 cs' := by
  obtain ⟨hi, hp, hd1⟩ := drop_more hd
  obtain ⟨k', c, t, cs', rfl, rfl, ha, L', hc⟩ := L.cons
  have played : ∀ x, WqatcuNeutral.callOf c = some x → ∀ s, PyFlat.played WqatcuNeutral.step s (c :: cs') = ansOf (Wqatcu.step s x).2 :: PyFlat.played WqatcuNeutral.step (Wqatcu.step s x).1 cs' := by
    intro x hx s
    have e : WqatcuNeutral.step s c = ((Wqatcu.step s x).1, ansOf (Wqatcu.step s x).2) := by
      unfold WqatcuNeutral.step
      rw [hx]
      rfl
    show (WqatcuNeutral.step s c).2 :: PyFlat.played WqatcuNeutral.step (WqatcuNeutral.step s c).1 cs' = _
    rw [e]
  rcases call_some hc with ⟨h01, n, r', rfl, hn0, hnl, rfl, rfl⟩ | ⟨⟨h2, h12⟩, hl, rfl, rfl⟩
  · have er : isRow p = true := by
      rcases h01 with rfl | rfl <;> rfl
    obtain ⟨hi1, hp1, hd2⟩ := drop_more hd1
    obtain ⟨m, rfl⟩ : ∃ m : Nat, n = (m : Int) := ⟨n.toNat, by omega⟩
    rw [Int.toNat_natCast] at hnl L' ha played
    obtain ⟨x, ax, cx⟩ := asks_row h01 ha
    refine ⟨i + 2, m, k', cs', x, rfl, by omega, ?_, by rw [if_pos er]; rfl, by rw [if_pos er]; exact hp1, by rw [show i + 2 = i + 1 + 1 from rfl, hd2]; exact ax, by rcases h01 with rfl | rfl <;> decide, ?_, played x cx⟩
    · have e := congrArg List.length hd2
      rw [List.length_drop] at e
      omega
    · rw [← List.drop_drop, show i + 2 = i + 1 + 1 from rfl, hd2]
      exact L'
  · have er : isRow p = false := by
      unfold isRow
      rw [decide_eq_false (show ¬ p = 0 by omega), decide_eq_false (show ¬ p = 1 by omega)]
      rfl
    have hlt : (r.take (argc p)).length = argc p := by rw [List.length_take]; omega
    obtain ⟨x, ax, cx⟩ := asks_plain h2 h12 hlt ha
    refine ⟨i + 1, argc p, k', cs', x, rfl, by omega, ?_, by rw [er]; rfl, by rw [er]; show argF p = _; unfold argF; rw [if_pos ⟨h2, h12⟩], by rw [hd1]; exact ax, by omega, ?_, played x cx⟩
    · have e := congrArg List.length hd1
      rw [List.length_drop] at e
      omega
    · rw [← List.drop_drop, hd1]
      exact L'
theorem told_cons (a : List Int) (r : List (List Int)) : PyFlat.told (a :: r) = (a.length : Int) :: a ++ PyFlat.told r := rfl
theorem SqL_keep {K : PySem.W.Frag} {H H' : Hp} {a b c : Addr} {xs : List V} (k : Keep [b, c] H H') (hb : H b = none) (hc : H c = none) (h : SqL K H a xs) : SqL K H' a xs := by
  have ne : ∀ {o : HO}, H a = some o → a ∉ [b, c] := fun e z => by
    rcases List.mem_cons.mp z with z | z
    · rw [z, hb] at e; cases e
    · rw [List.mem_singleton.mp z, hc] at e; cases e
  rcases h with (h | ⟨o, h⟩) | h
  · exact .inl (.inl (k _ _ h (ne h)))
  · exact .inl (.inr ⟨o, k _ _ h (ne h)⟩)
  · exact .inr h
def spAns (K : PySem.W.Frag) : Sp := fun vs H Q _ => ∃ (a : Addr) (ns : List Int), vs = [.ref a] ∧ SqL K H a (ns.map V.int) ∧ ns.length ≤ 30000 ∧ PyWqatcu.answers_asked ns = true ∧ ∀ (H' : Hp) (p : Addr), H' p = some (.lst ((PyWqatcu.answers ns).map V.int)) → Q (.ref p) H'
def ansMu (n : Nat) (σ : L2.St) : Nat := match σ with
  | [_, _, _, some (.int z), _, _, _] => n - z.toNat
  | _ => 0
section
variable {P : Program} {w : World} {K : PySem.W.Frag} {mg : Str → Option Value} {base : Heap} {CL CM CB : Addr}
theorem sc_answers : FnScope ["calls", "book", "told", "place", "first", "behind", "answer"] ["calls"] (defScope s_answers) := ⟨rfl, rfl, rfl, by decide +kernel, rfl, by decide +kernel, by decide +kernel⟩
theorem ok_answers {fa : Addr} {fd : FuncData} (F : Fun K "answers" "answers" s_answers fa fd) (T : Txt mg) (C : Cs K CL CM CB) (OK' : OkC P w K mg base CB 3 "Book" ["self"] (spBookInit CB CL CM)) (OF : Ok P w K mg base 2 "first_argument" ["calls", "place"] (spFirstK K)) (OC : Ok P w K mg base 2 "count_arguments" ["calls", "place"] (spCount K)) (OO : Ok P w K mg base 11 "answer_one" ["book", "call", "given"] (spOne CB CL CM 0)) :
    FnOk P w K mg base CX0 12 fa fd ["calls"] (spAns K) := by
  refine F.ok sc_answers (fun vs H Q E h => ?_) (fun cdv A outer s H vs Q E hr h => ?_)
  · obtain ⟨a, ns, rfl, _⟩ := h
    rfl
  · obtain ⟨a, ns, rfl, hs, hlen, hask, k⟩ := h
    have h4 := hr.mono (show 4 ≤ 11 by decide)
    have h2 := hr.mono (show 2 ≤ 11 by decide)
    refine ⟨_, pss_cons (ps_set (i := 1) sc_answers.nd rfl (Or.inl rfl) (pe_mk0 OK' h4))
      (pss_cons (ps_set (i := 2) sc_answers.nd rfl (Or.inl rfl) (pe_lst pa_nil))
      (pss_cons (ps_set (i := 3) sc_answers.nd rfl (Or.inl rfl) pe_int)
      (pss_cons (ps_while PassesOwn.never (pt_cmpR op_lt (pv 3) (pe_len T.b_len (pv 0)) (nomark _))
        (pss_cons (ps_set (i := 4) sc_answers.nd rfl (Or.inl rfl) (pe_fn OF h2 (pa_cons (pv 0) (pa_cons (pv 3) pa_nil))))
        (pss_cons (ps_set (i := 5) sc_answers.nd rfl (Or.inl rfl) (pe_op op_add (pv 4) (pe_fn OC h2 (pa_cons (pv 0) (pa_cons (pv 3) pa_nil)))))
        (pss_cons (ps_set (i := 6) sc_answers.nd rfl (Or.inl rfl) (pe_fn OO hr (pa_cons (pv 1) (pa_cons (pe_ix ix_list (pv 0) (pv 3) (fun _ _ => rfl)) (pa_cons (pe_slice sl_list (pv 0) (po_some (pv 4)) (po_some (pv 5))) pa_nil)))))
        (pss_cons (ps_expr (pe_app (pv 2) (pe_len T.b_len (pv 6))))
        (pss_cons (ps_expr (pe_ext (pv 2) (pv 6)))
        (pss_one (ps_set (i := 3) sc_answers.nd rfl (Or.inl rfl) (pv 5)))))))))
      (pss_one (ps_ret (pv 2)))))), ?_⟩
    obtain ⟨cs0, L0, ea⟩ := asked_left hask
    intro pb dq nq ndq neq
    refine ⟨pb, dq, [pb], rfl, upd_same, List.mem_cons_self, fun b hb => ⟨.ins CB dq [], by rw [List.mem_singleton.mp hb]; exact upd_same⟩, fun H1 kp1 B1 => ⟨rfl, ?_⟩⟩
    have s1 : Same H H1 := Same.made nq ndq (fun b o e hb => kp1 b o e (fun z => hb (List.mem_singleton.mp z)))
    refine ⟨Nat.zero_le _, fun tl htl => ?_⟩
    have ntl : H tl = none := s1.free htl
    have tlpb : tl ≠ pb := by
      obtain ⟨dxb, pl, M, b1, _⟩ := B1.ex
      exact (ne_of_none b1 htl).symm
    have B2 := B1.grow (o := .lst []) htl
    refine while_by (fun σ H' => ∃ (i k : Nat) (l : Rg.Log) (cs : List (List (List Int))) (out : List Int) (v4 v5 v6 : Option V), σ = [some (.ref a), some (.ref pb), some (.ref tl), some (.int (i : Int)), v4, v5, v6] ∧ Keep [pb, tl] H H' ∧ BookAt CB CL CM [tl, pb] H' pb l ∧ H' tl = some (.lst (out.map V.int)) ∧
      Left k (ns.drop i) cs ∧ k ≤ 300 ∧ PyWqatcu.answers ns = out ++ PyFlat.told (PyFlat.played WqatcuNeutral.step l cs) ∧ out.length ≤ (300 - k) * 40000 ∧ (Rg.logText l).length ≤ i ∧ i ≤ ns.length) (fun σ _ => ansMu ns.length σ) ?_ ?_ ?_
    · exact ⟨0, 300, [], cs0, [], none, none, none, rfl, (Keep.of s1).trans (Keep.of (Same.new htl)), B2, upd_same, by rw [List.drop_zero]; exact L0, Nat.le_refl _, ea, Nat.zero_le _, Nat.zero_le _, Nat.zero_le _⟩
    · rintro σ H' ⟨i, kk, l, cs, out, v4, v5, v6, rfl, kp, B, ht, L, hk, eans, hout, htxt, hi⟩
      have hs' := SqL_keep kp nq ntl hs
      refine ⟨_, rfl, _, rfl, a, _, rfl, .inl hs', _, _, rfl, rfl, _, rfl, ?_⟩
      rw [List.length_map]
      by_cases hlt : i < ns.length
      · rw [decide_eq_true (show (i : Int) < (ns.length : Int) by omega)]
        obtain ⟨p, r, hd⟩ : ∃ p r, ns.drop i = p :: r := by
          rw [List.drop_eq_getElem_cons hlt]
          exact ⟨_, _, rfl⟩
        rw [hd] at L
        obtain ⟨f, n, k', cs', x, rfl, hif, hfn, ef, en, ax, hp0, L', hpl⟩ := call_step hd L
        obtain ⟨_, hp, _⟩ := drop_more hd
        refine iteT ⟨_, rfl, _, rfl, a, ns, i, p, rfl, hs', hp, ?_⟩
        rw [ef]
        refine ⟨_, rfl, _, rfl, _, rfl, a, ns, i, p, (n : Int), rfl, hs', hp, en, _, _, rfl, rfl, ?_⟩
        refine ⟨_, rfl, _, rfl, _, rfl, a, _, _, V.int p, rfl, rfl, hs', atI_nat (get_int hp), _, rfl, _, rfl, _, rfl, _, rfl, _, rfl, a, _, rfl, hs', fun g hg => ?_⟩
        have ec : cutV (ns.map V.int) (some (f : Int)) (some ((f : Int) + (n : Int))) = ((ns.drop f).take n).map V.int := by
          have := cut_mid (ns.map V.int) f (f + n) (by omega) (by rw [List.length_map]; exact hfn)
          rw [show f + n - f = n by omega, ← List.map_drop, ← List.map_take] at this
          rw [← this]
          rfl
        rw [ec]
        have sg : Same H' (upd H' g (.lst (((ns.drop f).take n).map V.int))) := Same.new hg
        have hgl : ((ns.drop f).take n).length = n := by rw [List.length_take, List.length_drop]; omega
        refine ⟨pb, g, [tl, pb], l, p, (ns.drop f).take n, x, rfl, hp0, B.same sg, upd_same, by omega, ax, fun H3 q kp3 B3 a3 => ?_⟩
        have al := ans_len B.ok B.held ax
        have tx := text_len B.held ax
        rw [hpl] at eans
        generalize hw : ansOf (Wqatcu.step l x).2 = w at *
        have ntlg : tl ≠ g := ne_of_none ht hg
        have ht3 : H3 tl = some (.lst (out.map V.int)) := kp3 _ _ (sg _ _ ht) (fun z => tlpb (List.mem_singleton.mp z))
        have nq3 : q ≠ tl := fun z => by
          have := a3.1
          rw [z, sg _ _ ht] at this
          cases this
        have hb : out.length + w.length + 1 ≤ (300 - k') * 40000 := by
          have : (300 - k') = (300 - (k' + 1)) + 1 := by omega
          rw [this, Nat.add_mul]
          omega
        have hb2 : (300 - k') * 40000 ≤ 12000000 := by omega
        have hline : ∀ {z : Nat}, z ≤ 12000000 → z < sizeLine := fun h => Nat.lt_of_le_of_lt h (by decide)
        refine ⟨_, rfl, .inl ⟨rfl, _, SqL.of ht3⟩, _, rfl, q, _, rfl, .inl (SqL.of a3.2), tl, _, _, rfl, rfl, ht3, (by rw [List.length_map]; exact hline (by omega)), ?_⟩
        refine ⟨_, rfl, .inl ⟨rfl, _, SqL.of upd_same⟩, _, rfl, tl, q, _, _, rfl, rfl, upd_same, (by rw [upd_ne nq3]; exact a3.2), (by rw [List.length_append, List.length_map, List.length_map]; show out.length + 1 + w.length ≤ sizeLine; exact Nat.le_of_lt (hline (by omega))), ?_⟩
        have B4 := (B3.updS (o := .lst (out.map V.int ++ [V.int ((w.map V.int).length : Int)])) (show tl ∈ [tl, pb] by simp) tlpb).updS (o := .lst (out.map V.int ++ [V.int ((w.map V.int).length : Int)] ++ w.map V.int)) (show tl ∈ [tl, pb] by simp) tlpb
        refine ⟨_, rfl, ⟨f + n, k', (Wqatcu.step l x).1, cs', out ++ (w.length : Int) :: w, some (V.int (f : Int)), some (V.int ((f : Int) + (n : Int))), some (V.ref q), ?_, ?_, B4, ?_, L', by omega, ?_, ?_, ?_, hfn⟩, ?_⟩
        · rw [show ((f + n : Nat) : Int) = (f : Int) + (n : Int) by omega]
          rfl
        · have kg : Keep [pb, tl] H H3 := fun b o e hb => kp3 _ _ (sg _ _ (kp _ _ e hb)) (fun z => hb (by rw [List.mem_singleton.mp z]; exact List.mem_cons_self))
          exact (kg.upd (show tl ∈ [pb, tl] by simp)).upd (show tl ∈ [pb, tl] by simp)
        · rw [upd_same, List.length_map, List.map_append, List.append_assoc]
          rfl
        · rw [eans, told_cons, List.append_assoc]
        · rw [List.length_append, List.length_cons]
          omega
        · omega
        · show ns.length - ((f : Int) + (n : Int)).toNat < ns.length - ((i : Int)).toNat
          omega
      · rw [decide_eq_false (show ¬ (i : Int) < (ns.length : Int) by omega)]
        have hnil : ns.drop i = [] := List.drop_eq_nil_of_le (by omega)
        rw [hnil] at L
        have ecs := L.nil
        subst ecs
        refine iteF ⟨_, rfl, k _ tl ?_⟩
        rw [ht, eans]
        show _ = some (HO.lst ((out ++ []).map V.int))
        rw [List.append_nil]
    · rintro σ H' Q1 Q2 hQ ⟨x1, e1, x2, e2, p, ys, e3, e4, i, j, e5, e6, b, e7, e8⟩
      exact ⟨x1, e1, x2, e2, p, ys, e3, e4, i, j, e5, e6, b, e7, hQ _ _ e8⟩
end
end Bl
end
section
set_option maxHeartbeats 4000000
namespace Bl
open PySem PySem.Spec PyProof.Rows L2
def BB (x qual : Str) (st : Stmt) (ps : List Str) : Prop := ∀ (kV doc pm : Value) (an : Option Addr) (cdv ct : Value) (us : List Value), us.length = ps.length → bindArgs (PySem.W.fnOf x qual (defArgs st) (defBody st) (defScope st) .none kV doc pm an cdv ct) ⟨us, []⟩ = pure (ps.zip us)
section
variable {K : PySem.W.Frag} {h : Heap} {mg : Str → Option Value}
theorem mkG {x : Str} {st : Stmt} {ps : List Str} {f : Addr} {oc : Value} {od an : Option Addr} {osl : Array (Option Value)} {kV doc pm cdv ct : Value} (X : K.In h) (G : h.Ns mainGlobals mg) (b : BB x x st ps) (a : PySem.W.nsIn K mainGlobals x = some (some (.ref f)))
    (l : K.lookup f = some ⟨oc, od, .func (PySem.W.fnOf x x (defArgs st) (defBody st) (defScope st) .none kV doc pm an cdv ct), osl⟩) (c : PySem.W.codeIn K cdv x = true) (k : PySem.W.keepIn K (.ref f) = true) : FunG K mg x st ps :=
  ⟨f, _, PySem.W.mg_of X G a, fun_mk l c k, (fun_mk l c k).binds b⟩
theorem mkM {n x qual : Str} {st : Stmt} {ps : List Str} {C f : Addr} {oc : Value} {od an : Option Addr} {osl : Array (Option Value)} {kV doc pm cdv ct : Value} (b : BB x qual st ps) (g : PySem.W.nsIn K mainGlobals n = some (some (.ref C))) (a : PySem.W.findIn K (.ref C) x = some (some (.ref f))) (i : PySem.W.isFn K (.ref f) = true)
    (l : K.lookup f = some ⟨oc, od, .func (PySem.W.fnOf x qual (defArgs st) (defBody st) (defScope st) .none kV doc pm an cdv ct), osl⟩) (c : PySem.W.codeIn K cdv qual = true) (k : PySem.W.keepIn K (.ref f) = true) : FunM K C x qual st ps :=
  ⟨f, _, ⟨a, i, k⟩, fun_mk l c k, (fun_mk l c k).binds b⟩
theorem mkC {n qual : Str} {st : Stmt} {ps : List Str} {C f : Addr} {oc : Value} {od an : Option Addr} {osl : Array (Option Value)} {kV doc pm cdv ct : Value} (X : K.In h) (G : h.Ns mainGlobals mg) (b : BB "__init__" qual st ps) (g : PySem.W.nsIn K mainGlobals n = some (some (.ref C))) (a : PySem.W.findIn K (.ref C) "__init__" = some (some (.ref f))) (i : PySem.W.isFn K (.ref f) = true)
    (l : K.lookup f = some ⟨oc, od, .func (PySem.W.fnOf "__init__" qual (defArgs st) (defBody st) (defScope st) .none kV doc pm an cdv ct), osl⟩) (c : PySem.W.codeIn K cdv qual = true) (k : PySem.W.keepIn K (.ref f) = true) (mk : PySem.W.makesIn K C = true) (kc : PySem.W.keepIn K (.ref C) = true) : FunC K mg C n qual st ps :=
  ⟨PySem.W.mg_of X G g, f, _, ⟨mk, a, i, kc⟩, fun_mk l c k, (fun_mk l c k).binds b⟩
theorem mkCls {n : Str} {C : Addr} (g : PySem.W.nsIn K mainGlobals n = some (some (.ref C))) (pg : PySem.W.plainGet K C Str.empty = true) (hd : PySem.W.hasDictIn K C = true) (po : PySem.W.plainOver K C = true) (sa : PySem.W.findIn K (.ref C) "__setattr__" = some (some (.builtin "object.__setattr__"))) : Cls K C := ⟨pg, hd, po, sa⟩
theorem mkNo {n f : Str} {C : Addr} (g : PySem.W.nsIn K mainGlobals n = some (some (.ref C))) (a : PySem.W.findIn K (.ref C) f = some none) : NoAttr K C f := a
theorem mkI {n : Str} {i : Int} {t : Tok} (X : K.In h) (G : h.Ns mainGlobals mg) (g : PySem.W.nsIn K mainGlobals n = some (some (.int i t))) : GI mg n i := ⟨t, PySem.W.mg_of X G g⟩
theorem mkS {n z : Str} {t : Tok} (X : K.In h) (G : h.Ns mainGlobals mg) (g : PySem.W.nsIn K mainGlobals n = some (some (.str z t))) : GS mg n z := ⟨t, PySem.W.mg_of X G g⟩
theorem mkN {n : Str} (X : K.In h) (G : h.Ns mainGlobals mg) (g : PySem.W.nsIn K mainGlobals n = some none) : mg n = none := PySem.W.mg_none_of X G g
theorem mkD {d : Addr} {es : Array DictEntry} {ep : Nat} (X : K.In h) (G : h.Ns mainGlobals mg) (g : PySem.W.nsIn K mainGlobals "ARGUMENTS" = some (some (.ref d))) (l : K.lookup d = some ⟨.type "dict", none, .dict es ep, #[]⟩) (c : kdOk es = true) : ∃ d, mg "ARGUMENTS" = some (.ref d) ∧ KDict K d argF := ⟨d, PySem.W.mg_of X G g, kdict_of l c⟩
end
theorem b_minus : BB "minus" "minus" s_minus ["one", "other"] := fun _ _ _ _ _ _ us hl => match us, hl with | [_, _], _ => rfl
theorem b_plus : BB "plus" "plus" s_plus ["one", "other"] := fun _ _ _ _ _ _ us hl => match us, hl with | [_, _], _ => rfl
theorem b_cross : BB "cross" "cross" s_cross ["one", "other"] := fun _ _ _ _ _ _ us hl => match us, hl with | [_, _], _ => rfl
theorem b_dot : BB "dot" "dot" s_dot ["one", "other"] := fun _ _ _ _ _ _ us hl => match us, hl with | [_, _], _ => rfl
theorem b_square : BB "square" "square" s_square ["vector"] := fun _ _ _ _ _ _ us hl => match us, hl with | [_], _ => rfl
theorem b_side : BB "side" "side" s_side ["place", "p", "q"] := fun _ _ _ _ _ _ us hl => match us, hl with | [_, _, _], _ => rfl
theorem b_goes_over : BB "goes_over" "goes_over" s_goes_over ["c", "d", "p", "q"] := fun _ _ _ _ _ _ us hl => match us, hl with | [_, _, _, _], _ => rfl
theorem b_when_over : BB "when_over" "when_over" s_when_over ["c", "d", "p", "q"] := fun _ _ _ _ _ _ us hl => match us, hl with | [_, _, _, _], _ => rfl
theorem b_lowest : BB "lowest" "lowest" s_lowest ["numerator", "denominator"] := fun _ _ _ _ _ _ us hl => match us, hl with | [_, _], _ => rfl
theorem b_meet : BB "meet" "meet" s_meet ["a", "b", "c", "d"] := fun _ _ _ _ _ _ us hl => match us, hl with | [_, _, _, _], _ => rfl
theorem b_reaches_meet : BB "reaches_meet" "reaches_meet" s_reaches_meet ["a", "b", "c", "d"] := fun _ _ _ _ _ _ us hl => match us, hl with | [_, _, _, _], _ => rfl
theorem b_is_near : BB "is_near" "is_near" s_is_near ["place", "p", "q", "lengths"] := fun _ _ _ _ _ _ us hl => match us, hl with | [_, _, _, _], _ => rfl
theorem b_bow : BB "bow" "bow" s_bow ["hull"] := fun _ _ _ _ _ _ us hl => match us, hl with | [_], _ => rfl
theorem b_stern : BB "stern" "stern" s_stern ["hull"] := fun _ _ _ _ _ _ us hl => match us, hl with | [_], _ => rfl
theorem b_heading : BB "heading" "heading" s_heading ["hull"] := fun _ _ _ _ _ _ us hl => match us, hl with | [_], _ => rfl
theorem b_middle : BB "middle" "middle" s_middle ["hull"] := fun _ _ _ _ _ _ us hl => match us, hl with | [_], _ => rfl
theorem b_is_behind : BB "is_behind" "is_behind" s_is_behind ["place", "hull"] := fun _ _ _ _ _ _ us hl => match us, hl with | [_, _], _ => rfl
theorem b_is_clear_astern : BB "is_clear_astern" "is_clear_astern" s_is_clear_astern ["one", "other"] := fun _ _ _ _ _ _ us hl => match us, hl with | [_, _], _ => rfl
theorem b_is_to_leeward : BB "is_to_leeward" "is_to_leeward" s_is_to_leeward ["one", "other", "wind"] := fun _ _ _ _ _ _ us hl => match us, hl with | [_, _, _], _ => rfl
theorem b_do_touch : BB "do_touch" "do_touch" s_do_touch ["one", "other"] := fun _ _ _ _ _ _ us hl => match us, hl with | [_, _], _ => rfl
theorem b_is_in_zone : BB "is_in_zone" "is_in_zone" s_is_in_zone ["hull", "place", "lengths"] := fun _ _ _ _ _ _ us hl => match us, hl with | [_, _, _], _ => rfl
theorem b_cut : BB "cut" "cut" s_cut ["signs", "mark"] := fun _ _ _ _ _ _ us hl => match us, hl with | [_, _], _ => rfl
theorem b_spelled : BB "spelled" "spelled" s_spelled ["word"] := fun _ _ _ _ _ _ us hl => match us, hl with | [_], _ => rfl
theorem b_is_digit : BB "is_digit" "is_digit" s_is_digit ["sign"] := fun _ _ _ _ _ _ us hl => match us, hl with | [_], _ => rfl
theorem b_is_name : BB "is_name" "is_name" s_is_name ["word"] := fun _ _ _ _ _ _ us hl => match us, hl with | [_], _ => rfl
theorem b_read_size : BB "read_size" "read_size" s_read_size ["digits"] := fun _ _ _ _ _ _ us hl => match us, hl with | [_], _ => rfl
theorem b_read_number : BB "read_number" "read_number" s_read_number ["word"] := fun _ _ _ _ _ _ us hl => match us, hl with | [_], _ => rfl
theorem b_read_numbers : BB "read_numbers" "read_numbers" s_read_numbers ["words"] := fun _ _ _ _ _ _ us hl => match us, hl with | [_], _ => rfl
theorem b_read_boat : BB "read_boat" "read_boat" s_read_boat ["words"] := fun _ _ _ _ _ _ us hl => match us, hl with | [_], _ => rfl
theorem b_read_wind : BB "read_wind" "read_wind" s_read_wind ["words"] := fun _ _ _ _ _ _ us hl => match us, hl with | [_], _ => rfl
theorem b_read_at : BB "read_at" "read_at" s_read_at ["words"] := fun _ _ _ _ _ _ us hl => match us, hl with | [_], _ => rfl
theorem b_read_line : BB "read_line" "read_line" s_read_line ["line"] := fun _ _ _ _ _ _ us hl => match us, hl with | [_], _ => rfl
theorem b_turned_by_half : BB "turned_by_half" "turned_by_half" s_turned_by_half ["before", "after"] := fun _ _ _ _ _ _ us hl => match us, hl with | [_, _], _ => rfl
theorem b_tack_after : BB "tack_after" "tack_after" s_tack_after ["before", "course", "wind"] := fun _ _ _ _ _ _ us hl => match us, hl with | [_, _, _], _ => rfl
theorem b_points_into : BB "points_into" "points_into" s_points_into ["course", "wind"] := fun _ _ _ _ _ _ us hl => match us, hl with | [_, _], _ => rfl
theorem b_is_left : BB "is_left" "is_left" s_is_left ["course", "mark"] := fun _ _ _ _ _ _ us hl => match us, hl with | [_, _], _ => rfl
theorem b_passing : BB "passing" "passing" s_passing ["mark", "before", "after"] := fun _ _ _ _ _ _ us hl => match us, hl with | [_, _, _], _ => rfl
theorem b_rounds : BB "rounds" "rounds" s_rounds ["courses"] := fun _ _ _ _ _ _ us hl => match us, hl with | [_], _ => rfl
theorem b_is_too_far : BB "is_too_far" "is_too_far" s_is_too_far ["place"] := fun _ _ _ _ _ _ us hl => match us, hl with | [_], _ => rfl
theorem b_which : BB "which" "which" s_which ["first", "second"] := fun _ _ _ _ _ _ us hl => match us, hl with | [_, _], _ => rfl
theorem b_answers : BB "answers" "answers" s_answers ["calls"] := fun _ _ _ _ _ _ us hl => match us, hl with | [_], _ => rfl
theorem b_has_row : BB "has_row" "has_row" s_has_row ["call"] := fun _ _ _ _ _ _ us hl => match us, hl with | [_], _ => rfl
theorem b_first_argument : BB "first_argument" "first_argument" s_first_argument ["calls", "place"] := fun _ _ _ _ _ _ us hl => match us, hl with | [_, _], _ => rfl
theorem b_count_arguments : BB "count_arguments" "count_arguments" s_count_arguments ["calls", "place"] := fun _ _ _ _ _ _ us hl => match us, hl with | [_, _], _ => rfl
theorem b_answer_one : BB "answer_one" "answer_one" s_answer_one ["book", "call", "given"] := fun _ _ _ _ _ _ us hl => match us, hl with | [_, _, _], _ => rfl
theorem b_answer_sailing : BB "answer_sailing" "answer_sailing" s_answer_sailing ["book", "call", "given"] := fun _ _ _ _ _ _ us hl => match us, hl with | [_, _, _], _ => rfl
theorem b_Moment_heads_into_wind : BB "heads_into_wind" "Moment.heads_into_wind" s_Moment_heads_into_wind ["self", "i"] := fun _ _ _ _ _ _ us hl => match us, hl with | [_, _], _ => rfl
theorem b_Moment_change_since : BB "change_since" "Moment.change_since" s_Moment_change_since ["self", "before", "i"] := fun _ _ _ _ _ _ us hl => match us, hl with | [_, _, _], _ => rfl
theorem b_Log_copied : BB "copied" "Log.copied" s_Log_copied ["self"] := fun _ _ _ _ _ _ us hl => match us, hl with | [_], _ => rfl
theorem b_Log_write : BB "write" "Log.write" s_Log_write ["self", "text"] := fun _ _ _ _ _ _ us hl => match us, hl with | [_, _], _ => rfl
theorem b_Log_add_line : BB "add_line" "Log.add_line" s_Log_add_line ["self", "line"] := fun _ _ _ _ _ _ us hl => match us, hl with | [_, _], _ => rfl
theorem b_Log_add_told : BB "add_told" "Log.add_told" s_Log_add_told ["self", "kind", "told"] := fun _ _ _ _ _ _ us hl => match us, hl with | [_, _, _], _ => rfl
theorem b_Log_add_boat : BB "add_boat" "Log.add_boat" s_Log_add_boat ["self", "name"] := fun _ _ _ _ _ _ us hl => match us, hl with | [_, _], _ => rfl
theorem b_Log_add_wind : BB "add_wind" "Log.add_wind" s_Log_add_wind ["self", "wind"] := fun _ _ _ _ _ _ us hl => match us, hl with | [_, _], _ => rfl
theorem b_Log_add_moment : BB "add_moment" "Log.add_moment" s_Log_add_moment ["self", "hulls"] := fun _ _ _ _ _ _ us hl => match us, hl with | [_, _], _ => rfl
theorem b_Log_hulls_clash : BB "hulls_clash" "Log.hulls_clash" s_Log_hulls_clash ["self", "hulls"] := fun _ _ _ _ _ _ us hl => match us, hl with | [_, _], _ => rfl
theorem b_Log_tacks_with : BB "tacks_with" "Log.tacks_with" s_Log_tacks_with ["self", "hulls"] := fun _ _ _ _ _ _ us hl => match us, hl with | [_, _], _ => rfl
theorem b_Book_take : BB "take" "Book.take" s_Book_take ["self", "text"] := fun _ _ _ _ _ _ us hl => match us, hl with | [_, _], _ => rfl
theorem b_Book_more : BB "more" "Book.more" s_Book_more ["self", "text"] := fun _ _ _ _ _ _ us hl => match us, hl with | [_, _], _ => rfl
theorem b_Book_hold_grown : BB "hold_grown" "Book.hold_grown" s_Book_hold_grown ["self", "log", "text"] := fun _ _ _ _ _ _ us hl => match us, hl with | [_, _, _], _ => rfl
theorem b_Book_text : BB "text" "Book.text" s_Book_text ["self"] := fun _ _ _ _ _ _ us hl => match us, hl with | [_], _ => rfl
theorem b_Book_sizes : BB "sizes" "Book.sizes" s_Book_sizes ["self"] := fun _ _ _ _ _ _ us hl => match us, hl with | [_], _ => rfl
theorem b_Book_name : BB "name" "Book.name" s_Book_name ["self", "i"] := fun _ _ _ _ _ _ us hl => match us, hl with | [_, _], _ => rfl
theorem b_Book_boat : BB "boat" "Book.boat" s_Book_boat ["self", "i", "m"] := fun _ _ _ _ _ _ us hl => match us, hl with | [_, _, _], _ => rfl
theorem b_Book_tack : BB "tack" "Book.tack" s_Book_tack ["self", "i", "m"] := fun _ _ _ _ _ _ us hl => match us, hl with | [_, _, _], _ => rfl
theorem b_Book_next_change : BB "next_change" "Book.next_change" s_Book_next_change ["self", "i", "m"] := fun _ _ _ _ _ _ us hl => match us, hl with | [_, _, _], _ => rfl
theorem b_Book_rounds_made : BB "rounds_made" "Book.rounds_made" s_Book_rounds_made ["self", "i", "m", "k"] := fun _ _ _ _ _ _ us hl => match us, hl with | [_, _, _, _], _ => rfl
theorem b_Book_pair : BB "pair" "Book.pair" s_Book_pair ["self", "i", "j", "m"] := fun _ _ _ _ _ _ us hl => match us, hl with | [_, _, _, _], _ => rfl
theorem b_Book_zone : BB "zone" "Book.zone" s_Book_zone ["self", "i", "m", "place", "k"] := fun _ _ _ _ _ _ us hl => match us, hl with | [_, _, _, _, _], _ => rfl
theorem b_Book_over : BB "over" "Book.over" s_Book_over ["self", "i", "m", "p", "q"] := fun _ _ _ _ _ _ us hl => match us, hl with | [_, _, _, _, _], _ => rfl
theorem b_Book_touch : BB "touch" "Book.touch" s_Book_touch ["self", "i", "j", "m"] := fun _ _ _ _ _ _ us hl => match us, hl with | [_, _, _, _], _ => rfl
theorem b_Book_has_boat : BB "has_boat" "Book.has_boat" s_Book_has_boat ["self", "i"] := fun _ _ _ _ _ _ us hl => match us, hl with | [_, _], _ => rfl
theorem b_Book_has_moment : BB "has_moment" "Book.has_moment" s_Book_has_moment ["self", "m"] := fun _ _ _ _ _ _ us hl => match us, hl with | [_, _], _ => rfl
theorem b_Moment_init : BB "__init__" "Moment.__init__" s_Moment_init ["self", "hulls", "wind", "tacks"] := fun _ _ _ _ _ _ us hl => match us, hl with | [_, _, _, _], _ => rfl
theorem b_Log_init : BB "__init__" "Log.__init__" s_Log_init ["self"] := fun _ _ _ _ _ _ us hl => match us, hl with | [_], _ => rfl
theorem b_Book_init : BB "__init__" "Book.__init__" s_Book_init ["self"] := fun _ _ _ _ _ _ us hl => match us, hl with | [_], _ => rfl
structure All (K : PySem.W.Frag) (mg : Str → Option Value) (CL CM CB : Addr) : Prop where
  g_minus : FunG K mg "minus" s_minus ["one", "other"]
  g_plus : FunG K mg "plus" s_plus ["one", "other"]
  g_cross : FunG K mg "cross" s_cross ["one", "other"]
  g_dot : FunG K mg "dot" s_dot ["one", "other"]
  g_square : FunG K mg "square" s_square ["vector"]
  g_side : FunG K mg "side" s_side ["place", "p", "q"]
  g_goes_over : FunG K mg "goes_over" s_goes_over ["c", "d", "p", "q"]
  g_when_over : FunG K mg "when_over" s_when_over ["c", "d", "p", "q"]
  g_lowest : FunG K mg "lowest" s_lowest ["numerator", "denominator"]
  g_meet : FunG K mg "meet" s_meet ["a", "b", "c", "d"]
  g_reaches_meet : FunG K mg "reaches_meet" s_reaches_meet ["a", "b", "c", "d"]
  g_is_near : FunG K mg "is_near" s_is_near ["place", "p", "q", "lengths"]
  g_bow : FunG K mg "bow" s_bow ["hull"]
  g_stern : FunG K mg "stern" s_stern ["hull"]
  g_heading : FunG K mg "heading" s_heading ["hull"]
  g_middle : FunG K mg "middle" s_middle ["hull"]
  g_is_behind : FunG K mg "is_behind" s_is_behind ["place", "hull"]
  g_is_clear_astern : FunG K mg "is_clear_astern" s_is_clear_astern ["one", "other"]
  g_is_to_leeward : FunG K mg "is_to_leeward" s_is_to_leeward ["one", "other", "wind"]
  g_do_touch : FunG K mg "do_touch" s_do_touch ["one", "other"]
  g_is_in_zone : FunG K mg "is_in_zone" s_is_in_zone ["hull", "place", "lengths"]
  g_cut : FunG K mg "cut" s_cut ["signs", "mark"]
  g_spelled : FunG K mg "spelled" s_spelled ["word"]
  g_is_digit : FunG K mg "is_digit" s_is_digit ["sign"]
  g_is_name : FunG K mg "is_name" s_is_name ["word"]
  g_read_size : FunG K mg "read_size" s_read_size ["digits"]
  g_read_number : FunG K mg "read_number" s_read_number ["word"]
  g_read_numbers : FunG K mg "read_numbers" s_read_numbers ["words"]
  g_read_boat : FunG K mg "read_boat" s_read_boat ["words"]
  g_read_wind : FunG K mg "read_wind" s_read_wind ["words"]
  g_read_at : FunG K mg "read_at" s_read_at ["words"]
  g_read_line : FunG K mg "read_line" s_read_line ["line"]
  g_turned_by_half : FunG K mg "turned_by_half" s_turned_by_half ["before", "after"]
  g_tack_after : FunG K mg "tack_after" s_tack_after ["before", "course", "wind"]
  g_points_into : FunG K mg "points_into" s_points_into ["course", "wind"]
  g_is_left : FunG K mg "is_left" s_is_left ["course", "mark"]
  g_passing : FunG K mg "passing" s_passing ["mark", "before", "after"]
  g_rounds : FunG K mg "rounds" s_rounds ["courses"]
  g_is_too_far : FunG K mg "is_too_far" s_is_too_far ["place"]
  g_which : FunG K mg "which" s_which ["first", "second"]
  g_answers : FunG K mg "answers" s_answers ["calls"]
  g_has_row : FunG K mg "has_row" s_has_row ["call"]
  g_first_argument : FunG K mg "first_argument" s_first_argument ["calls", "place"]
  g_count_arguments : FunG K mg "count_arguments" s_count_arguments ["calls", "place"]
  g_answer_one : FunG K mg "answer_one" s_answer_one ["book", "call", "given"]
  g_answer_sailing : FunG K mg "answer_sailing" s_answer_sailing ["book", "call", "given"]
  m_CM_heads_into_wind : FunM K CM "heads_into_wind" "Moment.heads_into_wind" s_Moment_heads_into_wind ["self", "i"]
  m_CM_change_since : FunM K CM "change_since" "Moment.change_since" s_Moment_change_since ["self", "before", "i"]
  m_CL_copied : FunM K CL "copied" "Log.copied" s_Log_copied ["self"]
  m_CL_write : FunM K CL "write" "Log.write" s_Log_write ["self", "text"]
  m_CL_add_line : FunM K CL "add_line" "Log.add_line" s_Log_add_line ["self", "line"]
  m_CL_add_told : FunM K CL "add_told" "Log.add_told" s_Log_add_told ["self", "kind", "told"]
  m_CL_add_boat : FunM K CL "add_boat" "Log.add_boat" s_Log_add_boat ["self", "name"]
  m_CL_add_wind : FunM K CL "add_wind" "Log.add_wind" s_Log_add_wind ["self", "wind"]
  m_CL_add_moment : FunM K CL "add_moment" "Log.add_moment" s_Log_add_moment ["self", "hulls"]
  m_CL_hulls_clash : FunM K CL "hulls_clash" "Log.hulls_clash" s_Log_hulls_clash ["self", "hulls"]
  m_CL_tacks_with : FunM K CL "tacks_with" "Log.tacks_with" s_Log_tacks_with ["self", "hulls"]
  m_CB_take : FunM K CB "take" "Book.take" s_Book_take ["self", "text"]
  m_CB_more : FunM K CB "more" "Book.more" s_Book_more ["self", "text"]
  m_CB_hold_grown : FunM K CB "hold_grown" "Book.hold_grown" s_Book_hold_grown ["self", "log", "text"]
  m_CB_text : FunM K CB "text" "Book.text" s_Book_text ["self"]
  m_CB_sizes : FunM K CB "sizes" "Book.sizes" s_Book_sizes ["self"]
  m_CB_name : FunM K CB "name" "Book.name" s_Book_name ["self", "i"]
  m_CB_boat : FunM K CB "boat" "Book.boat" s_Book_boat ["self", "i", "m"]
  m_CB_tack : FunM K CB "tack" "Book.tack" s_Book_tack ["self", "i", "m"]
  m_CB_next_change : FunM K CB "next_change" "Book.next_change" s_Book_next_change ["self", "i", "m"]
  m_CB_rounds_made : FunM K CB "rounds_made" "Book.rounds_made" s_Book_rounds_made ["self", "i", "m", "k"]
  m_CB_pair : FunM K CB "pair" "Book.pair" s_Book_pair ["self", "i", "j", "m"]
  m_CB_zone : FunM K CB "zone" "Book.zone" s_Book_zone ["self", "i", "m", "place", "k"]
  m_CB_over : FunM K CB "over" "Book.over" s_Book_over ["self", "i", "m", "p", "q"]
  m_CB_touch : FunM K CB "touch" "Book.touch" s_Book_touch ["self", "i", "j", "m"]
  m_CB_has_boat : FunM K CB "has_boat" "Book.has_boat" s_Book_has_boat ["self", "i"]
  m_CB_has_moment : FunM K CB "has_moment" "Book.has_moment" s_Book_has_moment ["self", "m"]
  i_Moment : FunC K mg CM "Moment" "Moment.__init__" s_Moment_init ["self", "hulls", "wind", "tacks"]
  i_Log : FunC K mg CL "Log" "Log.__init__" s_Log_init ["self"]
  i_Book : FunC K mg CB "Book" "Book.__init__" s_Book_init ["self"]
theorem fin {P : Program} {w : World} {K : PySem.W.Frag} {mg : Str → Option Value} {CL CM CB d fa : Addr} (A : All K mg CL CM CB) (T : Txt mg) (C : Cs K CL CM CB) (hd : mg "ARGUMENTS" = some (.ref d)) (kd : KDict K d argF) (hfa : mg "answers" = some (.ref fa)) :
    ∃ fd : FuncData, (∀ (s : Shared) (us : List Value), us.length = (["calls"] : List Str).length → BindsTo s fd ⟨us, []⟩ ((["calls"] : List Str).zip us)) ∧ ∀ base : Heap, K.In base → base.Ns mainGlobals mg → FnOk P w K mg base CX0 12 fa fd ["calls"] (spAns K) := by
  obtain ⟨f, fd, h1, h2, _⟩ := A.g_answers
  have e := h1.symm.trans hfa
  cases e
  have F := h2
  obtain ⟨oc, od, kV, doc, pm, an, cdv, ct, osl, rfl, lk, hcd⟩ := h2.ex
  refine ⟨PySem.W.fnOf "answers" "answers" (defArgs s_answers) (defBody s_answers) (defScope s_answers) .none kV doc pm an cdv ct, fun s us hu => match us, hu with | [_], _ => .of_eq rfl, fun base _ _ => ?_⟩
  have og_cross := ok_cross (P := P) (w := w) (base := base) A.g_cross
  have og_dot := ok_dot (P := P) (w := w) (base := base) A.g_dot
  have og_minus := ok_minus (P := P) (w := w) (base := base) A.g_minus
  have og_plus := ok_plus (P := P) (w := w) (base := base) A.g_plus
  have og_square := ok_square (P := P) (w := w) (base := base) A.g_square og_dot
  have og_bow := ok_bow (P := P) (w := w) (base := base) A.g_bow
  have og_stern := ok_stern (P := P) (w := w) (base := base) A.g_stern
  have og_heading := ok_heading (P := P) (w := w) (base := base) A.g_heading og_minus og_bow og_stern
  have og_middle := ok_middle (P := P) (w := w) (base := base) A.g_middle og_plus og_bow og_stern
  have og_turned_by_half := ok_half (P := P) (w := w) (base := base) A.g_turned_by_half og_cross og_dot
  have og_tack_after := ok_tack_after (P := P) (w := w) (base := base) A.g_tack_after T og_cross
  have og_cut := ok_cut (P := P) (w := w) (base := base) A.g_cut
  have og_is_digit := ok_is_digit (P := P) (w := w) (base := base) A.g_is_digit T
  have og_read_size := ok_read_size (P := P) (w := w) (base := base) A.g_read_size T og_is_digit
  have og_is_name := ok_is_name (P := P) (w := w) (base := base) A.g_is_name T og_is_digit
  have og_read_number := ok_read_number (P := P) (w := w) (base := base) A.g_read_number T og_read_size
  have og_read_numbers := ok_read_numbers (P := P) (w := w) (base := base) A.g_read_numbers T og_read_number
  have og_read_boat := ok_read_boat (P := P) (w := w) (base := base) A.g_read_boat T og_is_name
  have og_read_wind := ok_read_wind (P := P) (w := w) (base := base) A.g_read_wind T og_read_numbers
  have og_read_at := ok_read_at (P := P) (w := w) (base := base) A.g_read_at T og_read_numbers
  have og_spelled := ok_spelled (P := P) (w := w) (base := base) A.g_spelled T
  have og_read_line := ok_read_line (P := P) (w := w) (base := base) A.g_read_line T og_cut og_spelled og_read_boat og_read_wind og_read_at
  have oi_Moment := ok_mom_init (P := P) (w := w) (base := base) A.i_Moment C
  have oi_Log := ok_log_init (P := P) (w := w) (base := base) A.i_Log C
  have om_CL_copied := ok_copied (P := P) (w := w) (base := base) A.m_CL_copied T C oi_Log
  have om_CL_add_boat := ok_add_boat (P := P) (w := w) (base := base) A.m_CL_add_boat T C
  have om_CL_add_wind := ok_add_wind (P := P) (w := w) (base := base) A.m_CL_add_wind T C
  have om_CL_hulls_clash := ok_clash (P := P) (w := w) (base := base) A.m_CL_hulls_clash T C og_heading og_turned_by_half
  have om_CL_tacks_with := ok_tacks_with (P := P) (w := w) (base := base) A.m_CL_tacks_with T C og_heading og_tack_after
  have om_CL_add_moment := ok_add_moment (P := P) (w := w) (base := base) A.m_CL_add_moment T C om_CL_hulls_clash om_CL_tacks_with oi_Moment
  have om_CL_add_told := ok_add_told (P := P) (w := w) (base := base) A.m_CL_add_told T C om_CL_add_boat om_CL_add_wind om_CL_add_moment
  have om_CL_add_line := ok_add_line (P := P) (w := w) (base := base) A.m_CL_add_line T C og_read_line om_CL_add_told
  have om_CL_write := ok_write (P := P) (w := w) (base := base) A.m_CL_write T C og_cut om_CL_add_line
  have om_CB_hold_grown := ok_hold (P := P) (w := w) (base := base) A.m_CB_hold_grown T C om_CL_write
  have om_CB_take := ok_take (P := P) (w := w) (base := base) A.m_CB_take C oi_Log om_CB_hold_grown
  have om_CB_more := ok_more (P := P) (w := w) (base := base) A.m_CB_more C om_CL_copied om_CB_hold_grown
  have oi_Book := ok_book_init (P := P) (w := w) (base := base) A.i_Book C oi_Log
  have om_CB_has_boat := ok_has_boat (P := P) (w := w) (base := base) A.m_CB_has_boat T C
  have om_CB_has_moment := ok_has_moment (P := P) (w := w) (base := base) A.m_CB_has_moment T C
  have om_CB_text := ok_text (P := P) (w := w) (base := base) A.m_CB_text T C
  have om_CB_sizes := ok_sizes (P := P) (w := w) (base := base) A.m_CB_sizes T C
  have om_CB_name := ok_name (P := P) (w := w) (base := base) A.m_CB_name T C om_CB_has_boat
  have om_CB_boat := ok_boat (P := P) (w := w) (base := base) A.m_CB_boat T C om_CB_has_boat om_CB_has_moment
  have om_CB_tack := ok_tackB (P := P) (w := w) (base := base) A.m_CB_tack T C om_CB_has_boat om_CB_has_moment
  have og_side := ok_side (P := P) (w := w) (base := base) A.g_side og_cross og_minus
  have og_goes_over := ok_goes_over (P := P) (w := w) (base := base) A.g_goes_over og_side
  have og_lowest := ok_lowest (P := P) (w := w) (base := base) A.g_lowest
  have og_when_over := ok_when_over (P := P) (w := w) (base := base) A.g_when_over og_side og_lowest
  have og_reaches_meet := ok_reaches (P := P) (w := w) (base := base) A.g_reaches_meet T
  have og_meet := ok_meet (P := P) (w := w) (base := base) A.g_meet og_reaches_meet og_side
  have og_is_near := ok_near (P := P) (w := w) (base := base) A.g_is_near og_minus og_square og_dot og_cross
  have og_is_behind := ok_behind (P := P) (w := w) (base := base) A.g_is_behind og_dot og_minus og_heading og_stern
  have og_is_clear_astern := ok_astern (P := P) (w := w) (base := base) A.g_is_clear_astern og_is_behind og_bow og_stern
  have og_is_to_leeward := ok_lee (P := P) (w := w) (base := base) A.g_is_to_leeward og_dot og_minus og_middle
  have og_do_touch := ok_touch (P := P) (w := w) (base := base) A.g_do_touch og_meet og_bow og_stern
  have og_is_in_zone := ok_in_zone (P := P) (w := w) (base := base) A.g_is_in_zone og_is_near og_bow og_stern
  have og_points_into := ok_into (P := P) (w := w) (base := base) A.g_points_into og_dot
  have og_is_left := ok_left (P := P) (w := w) (base := base) A.g_is_left og_cross og_dot
  have og_passing := ok_passing (P := P) (w := w) (base := base) A.g_passing og_cross og_is_left
  have og_rounds := ok_rounds (P := P) (w := w) (base := base) A.g_rounds T og_passing
  have om_CM_heads_into_wind := ok_heads (P := P) (w := w) (base := base) A.m_CM_heads_into_wind C og_points_into og_heading
  have om_CM_change_since := ok_change (P := P) (w := w) (base := base) A.m_CM_change_since T C om_CM_heads_into_wind
  have om_CB_next_change := ok_next (P := P) (w := w) (base := base) A.m_CB_next_change T C om_CB_has_boat om_CB_has_moment om_CM_change_since
  have om_CB_rounds_made := ok_round (P := P) (w := w) (base := base) A.m_CB_rounds_made T C om_CB_has_boat om_CB_has_moment og_rounds og_heading
  have og_is_too_far := ok_far (P := P) (w := w) (base := base) A.g_is_too_far T
  have og_which := ok_which (P := P) (w := w) (base := base) A.g_which
  have om_CB_pair := ok_pair (P := P) (w := w) (base := base) A.m_CB_pair T C om_CB_has_boat om_CB_has_moment og_which og_is_clear_astern og_is_to_leeward og_do_touch
  have om_CB_zone := ok_zoneB (P := P) (w := w) (base := base) A.m_CB_zone T C om_CB_has_boat om_CB_has_moment og_is_too_far og_is_in_zone
  have om_CB_touch := ok_touchB (P := P) (w := w) (base := base) A.m_CB_touch T C om_CB_has_boat om_CB_has_moment og_do_touch
  have om_CB_over := ok_overB (P := P) (w := w) (base := base) A.m_CB_over T C om_CB_has_boat om_CB_has_moment og_is_too_far og_bow og_goes_over og_when_over
  have og_has_row := ok_row (P := P) (w := w) (base := base) A.g_has_row T
  have og_first_argument := ok_first (P := P) (w := w) (base := base) A.g_first_argument og_has_row
  have og_count_arguments := ok_count (P := P) (w := w) (base := base) A.g_count_arguments og_has_row hd kd
  have og_answer_sailing := ok_sail (P := P) (w := w) (base := base) A.g_answer_sailing T C om_CB_next_change om_CB_rounds_made om_CB_pair om_CB_zone om_CB_over om_CB_touch
  have og_answer_one := ok_one (P := P) (w := w) (base := base) A.g_answer_one T C om_CB_take om_CB_more om_CB_text om_CB_sizes om_CB_name om_CB_boat om_CB_tack og_answer_sailing
  exact ok_answers F T C oi_Book og_first_argument og_count_arguments og_answer_one
end Bl
end
section
set_option maxHeartbeats 4000000
namespace Bl
open PySem PySem.Spec PyProof.Rows L2
section
variable {P : Params} {h : Heap} {mg : Str → Option Value}
noncomputable abbrev kW (P : Params) : PySem.W.Frag := kfr pW P
theorem rCL : PySem.W.nsIn (kW P) mainGlobals "Log" = some (some (.ref 383)) := by kernel_rfl
theorem rCM : PySem.W.nsIn (kW P) mainGlobals "Moment" = some (some (.ref 301)) := by kernel_rfl
theorem rCB : PySem.W.nsIn (kW P) mainGlobals "Book" = some (some (.ref 526)) := by kernel_rfl
theorem cCL : Cls (kW P) 383 := mkCls rCL (by kernel_rfl) (by kernel_rfl) (by kernel_rfl) (by kernel_rfl)
theorem cCM : Cls (kW P) 301 := mkCls rCM (by kernel_rfl) (by kernel_rfl) (by kernel_rfl) (by kernel_rfl)
theorem cCB : Cls (kW P) 526 := mkCls rCB (by kernel_rfl) (by kernel_rfl) (by kernel_rfl) (by kernel_rfl)
theorem n_nW : NoAttr (kW P) 383 "written" := mkNo rCL (by kernel_rfl)
theorem n_nL : NoAttr (kW P) 383 "lines" := mkNo rCL (by kernel_rfl)
theorem n_nN : NoAttr (kW P) 383 "names" := mkNo rCL (by kernel_rfl)
theorem n_nD : NoAttr (kW P) 383 "winds" := mkNo rCL (by kernel_rfl)
theorem n_nM : NoAttr (kW P) 383 "moments" := mkNo rCL (by kernel_rfl)
theorem n_mH : NoAttr (kW P) 301 "hulls" := mkNo rCM (by kernel_rfl)
theorem n_mW : NoAttr (kW P) 301 "wind" := mkNo rCM (by kernel_rfl)
theorem n_mT : NoAttr (kW P) 301 "tacks" := mkNo rCM (by kernel_rfl)
theorem n_bL : NoAttr (kW P) 526 "log" := mkNo rCB (by kernel_rfl)
theorem csF : Cs (kW P) 383 301 526 := ⟨cCL, cCM, cCB, n_nW, n_nL, n_nN, n_nD, n_nM, n_mH, n_mW, n_mT, n_bL⟩
theorem txtF (X : (kW P).In h) (G : h.Ns mainGlobals mg) : Txt mg := ⟨mkI (t := 381) X G (by kernel_rfl), mkI (t := 383) X G (by kernel_rfl), mkI (t := 385) X G (by kernel_rfl), mkI (t := 387) X G (by kernel_rfl), mkI (t := 389) X G (by kernel_rfl), mkI (t := 391) X G (by kernel_rfl), mkI (t := 393) X G (by kernel_rfl), mkI (t := 395) X G (by kernel_rfl), mkI (t := 397) X G (by kernel_rfl), mkI (t := 399) X G (by kernel_rfl), mkI (t := 401) X G (by kernel_rfl), mkS (t := 403) X G (by kernel_rfl), mkS (t := 405) X G (by kernel_rfl), mkS (t := 407) X G (by kernel_rfl), mkI (t := 493) X G (by kernel_rfl), mkI (t := 495) X G (by kernel_rfl), mkI (t := 497) X G (by kernel_rfl), mkI (t := 499) X G (by kernel_rfl), mkI (t := 554) X G (by kernel_rfl), mkI (t := 556) X G (by kernel_rfl), mkI (t := 558) X G (by kernel_rfl), mkI (t := 560) X G (by kernel_rfl), mkI (t := 562) X G (by kernel_rfl), mkI (t := 564) X G (by kernel_rfl), mkI (t := 566) X G (by kernel_rfl), mkI (t := 568) X G (by kernel_rfl), mkI (t := 733) X G (by kernel_rfl), mkI (t := 736) X G (by kernel_rfl), mkI (t := 739) X G (by kernel_rfl), mkI (t := 742) X G (by kernel_rfl), mkI (t := 745) X G (by kernel_rfl), mkI (t := 748) X G (by kernel_rfl), mkI (t := 750) X G (by kernel_rfl), mkI (t := 752) X G (by kernel_rfl), mkI (t := 944) X G (by kernel_rfl), mkI (t := 946) X G (by kernel_rfl), mkI (t := 948) X G (by kernel_rfl), mkI (t := 950) X G (by kernel_rfl), mkI (t := 952) X G (by kernel_rfl), mkI (t := 954) X G (by kernel_rfl), mkI (t := 956) X G (by kernel_rfl), mkI (t := 958) X G (by kernel_rfl), mkI (t := 960) X G (by kernel_rfl), mkI (t := 962) X G (by kernel_rfl), mkI (t := 964) X G (by kernel_rfl), mkI (t := 966) X G (by kernel_rfl), mkN X G (by kernel_rfl), mkN X G (by kernel_rfl), mkN X G (by kernel_rfl), mkN X G (by kernel_rfl), mkN X G (by kernel_rfl), mkN X G (by kernel_rfl), mkN X G (by kernel_rfl), mkN X G (by kernel_rfl), mkN X G (by kernel_rfl), mkN X G (by kernel_rfl), mkN X G (by kernel_rfl)⟩
theorem dictF (X : (kW P).In h) (G : h.Ns mainGlobals mg) : ∃ d, mg "ARGUMENTS" = some (.ref d) ∧ KDict (kW P) d argF := mkD (d := 531) (es := #[kI 2 0 968, kI 3 0 970, kI 4 1 972, kI 5 2 974, kI 6 2 976, kI 7 2 978, kI 8 3 980, kI 9 3 982, kI 10 5 984, kI 11 6 986, kI 12 3 988]) (ep := 11) X G (by kernel_rfl) (by kernel_rfl) (by decide +kernel)
theorem g_minus (X : (kW P).In h) (G : h.Ns mainGlobals mg) : FunG (kW P) mg "minus" s_minus ["one", "other"] := mkG (f := 21) (oc := .type "function") (od := none) (an := none) (osl := #[]) (kV := .none) (doc := .none) (pm := .str "boatlog.vectors" 187) (cdv := .ref 20) (ct := .none) X G b_minus (by kernel_rfl) (by kernel_rfl) (by kernel_rfl) (by kernel_rfl)
theorem g_plus (X : (kW P).In h) (G : h.Ns mainGlobals mg) : FunG (kW P) mg "plus" s_plus ["one", "other"] := mkG (f := 28) (oc := .type "function") (od := none) (an := none) (osl := #[]) (kV := .none) (doc := .none) (pm := .str "boatlog.vectors" 187) (cdv := .ref 27) (ct := .none) X G b_plus (by kernel_rfl) (by kernel_rfl) (by kernel_rfl) (by kernel_rfl)
theorem g_cross (X : (kW P).In h) (G : h.Ns mainGlobals mg) : FunG (kW P) mg "cross" s_cross ["one", "other"] := mkG (f := 35) (oc := .type "function") (od := none) (an := none) (osl := #[]) (kV := .none) (doc := .none) (pm := .str "boatlog.vectors" 187) (cdv := .ref 34) (ct := .none) X G b_cross (by kernel_rfl) (by kernel_rfl) (by kernel_rfl) (by kernel_rfl)
theorem g_dot (X : (kW P).In h) (G : h.Ns mainGlobals mg) : FunG (kW P) mg "dot" s_dot ["one", "other"] := mkG (f := 42) (oc := .type "function") (od := none) (an := none) (osl := #[]) (kV := .none) (doc := .none) (pm := .str "boatlog.vectors" 187) (cdv := .ref 41) (ct := .none) X G b_dot (by kernel_rfl) (by kernel_rfl) (by kernel_rfl) (by kernel_rfl)
theorem g_square (X : (kW P).In h) (G : h.Ns mainGlobals mg) : FunG (kW P) mg "square" s_square ["vector"] := mkG (f := 49) (oc := .type "function") (od := none) (an := none) (osl := #[]) (kV := .none) (doc := .none) (pm := .str "boatlog.vectors" 187) (cdv := .ref 48) (ct := .none) X G b_square (by kernel_rfl) (by kernel_rfl) (by kernel_rfl) (by kernel_rfl)
theorem g_side (X : (kW P).In h) (G : h.Ns mainGlobals mg) : FunG (kW P) mg "side" s_side ["place", "p", "q"] := mkG (f := 56) (oc := .type "function") (od := none) (an := none) (osl := #[]) (kV := .none) (doc := .none) (pm := .str "boatlog.straights" 228) (cdv := .ref 55) (ct := .none) X G b_side (by kernel_rfl) (by kernel_rfl) (by kernel_rfl) (by kernel_rfl)
theorem g_goes_over (X : (kW P).In h) (G : h.Ns mainGlobals mg) : FunG (kW P) mg "goes_over" s_goes_over ["c", "d", "p", "q"] := mkG (f := 63) (oc := .type "function") (od := none) (an := none) (osl := #[]) (kV := .none) (doc := .none) (pm := .str "boatlog.straights" 228) (cdv := .ref 62) (ct := .none) X G b_goes_over (by kernel_rfl) (by kernel_rfl) (by kernel_rfl) (by kernel_rfl)
theorem g_when_over (X : (kW P).In h) (G : h.Ns mainGlobals mg) : FunG (kW P) mg "when_over" s_when_over ["c", "d", "p", "q"] := mkG (f := 70) (oc := .type "function") (od := none) (an := none) (osl := #[]) (kV := .none) (doc := .none) (pm := .str "boatlog.straights" 228) (cdv := .ref 69) (ct := .none) X G b_when_over (by kernel_rfl) (by kernel_rfl) (by kernel_rfl) (by kernel_rfl)
theorem g_lowest (X : (kW P).In h) (G : h.Ns mainGlobals mg) : FunG (kW P) mg "lowest" s_lowest ["numerator", "denominator"] := mkG (f := 77) (oc := .type "function") (od := none) (an := none) (osl := #[]) (kV := .none) (doc := .none) (pm := .str "boatlog.straights" 228) (cdv := .ref 76) (ct := .none) X G b_lowest (by kernel_rfl) (by kernel_rfl) (by kernel_rfl) (by kernel_rfl)
theorem g_meet (X : (kW P).In h) (G : h.Ns mainGlobals mg) : FunG (kW P) mg "meet" s_meet ["a", "b", "c", "d"] := mkG (f := 84) (oc := .type "function") (od := none) (an := none) (osl := #[]) (kV := .none) (doc := .none) (pm := .str "boatlog.straights" 228) (cdv := .ref 83) (ct := .none) X G b_meet (by kernel_rfl) (by kernel_rfl) (by kernel_rfl) (by kernel_rfl)
theorem g_reaches_meet (X : (kW P).In h) (G : h.Ns mainGlobals mg) : FunG (kW P) mg "reaches_meet" s_reaches_meet ["a", "b", "c", "d"] := mkG (f := 91) (oc := .type "function") (od := none) (an := none) (osl := #[]) (kV := .none) (doc := .none) (pm := .str "boatlog.straights" 228) (cdv := .ref 90) (ct := .none) X G b_reaches_meet (by kernel_rfl) (by kernel_rfl) (by kernel_rfl) (by kernel_rfl)
theorem g_is_near (X : (kW P).In h) (G : h.Ns mainGlobals mg) : FunG (kW P) mg "is_near" s_is_near ["place", "p", "q", "lengths"] := mkG (f := 98) (oc := .type "function") (od := none) (an := none) (osl := #[]) (kV := .none) (doc := .none) (pm := .str "boatlog.straights" 228) (cdv := .ref 97) (ct := .none) X G b_is_near (by kernel_rfl) (by kernel_rfl) (by kernel_rfl) (by kernel_rfl)
theorem g_bow (X : (kW P).In h) (G : h.Ns mainGlobals mg) : FunG (kW P) mg "bow" s_bow ["hull"] := mkG (f := 105) (oc := .type "function") (od := none) (an := none) (osl := #[]) (kV := .none) (doc := .none) (pm := .str "boatlog.hulls" 307) (cdv := .ref 104) (ct := .none) X G b_bow (by kernel_rfl) (by kernel_rfl) (by kernel_rfl) (by kernel_rfl)
theorem g_stern (X : (kW P).In h) (G : h.Ns mainGlobals mg) : FunG (kW P) mg "stern" s_stern ["hull"] := mkG (f := 112) (oc := .type "function") (od := none) (an := none) (osl := #[]) (kV := .none) (doc := .none) (pm := .str "boatlog.hulls" 307) (cdv := .ref 111) (ct := .none) X G b_stern (by kernel_rfl) (by kernel_rfl) (by kernel_rfl) (by kernel_rfl)
theorem g_heading (X : (kW P).In h) (G : h.Ns mainGlobals mg) : FunG (kW P) mg "heading" s_heading ["hull"] := mkG (f := 119) (oc := .type "function") (od := none) (an := none) (osl := #[]) (kV := .none) (doc := .none) (pm := .str "boatlog.hulls" 307) (cdv := .ref 118) (ct := .none) X G b_heading (by kernel_rfl) (by kernel_rfl) (by kernel_rfl) (by kernel_rfl)
theorem g_middle (X : (kW P).In h) (G : h.Ns mainGlobals mg) : FunG (kW P) mg "middle" s_middle ["hull"] := mkG (f := 126) (oc := .type "function") (od := none) (an := none) (osl := #[]) (kV := .none) (doc := .none) (pm := .str "boatlog.hulls" 307) (cdv := .ref 125) (ct := .none) X G b_middle (by kernel_rfl) (by kernel_rfl) (by kernel_rfl) (by kernel_rfl)
theorem g_is_behind (X : (kW P).In h) (G : h.Ns mainGlobals mg) : FunG (kW P) mg "is_behind" s_is_behind ["place", "hull"] := mkG (f := 133) (oc := .type "function") (od := none) (an := none) (osl := #[]) (kV := .none) (doc := .none) (pm := .str "boatlog.hulls" 307) (cdv := .ref 132) (ct := .none) X G b_is_behind (by kernel_rfl) (by kernel_rfl) (by kernel_rfl) (by kernel_rfl)
theorem g_is_clear_astern (X : (kW P).In h) (G : h.Ns mainGlobals mg) : FunG (kW P) mg "is_clear_astern" s_is_clear_astern ["one", "other"] := mkG (f := 140) (oc := .type "function") (od := none) (an := none) (osl := #[]) (kV := .none) (doc := .none) (pm := .str "boatlog.hulls" 307) (cdv := .ref 139) (ct := .none) X G b_is_clear_astern (by kernel_rfl) (by kernel_rfl) (by kernel_rfl) (by kernel_rfl)
theorem g_is_to_leeward (X : (kW P).In h) (G : h.Ns mainGlobals mg) : FunG (kW P) mg "is_to_leeward" s_is_to_leeward ["one", "other", "wind"] := mkG (f := 147) (oc := .type "function") (od := none) (an := none) (osl := #[]) (kV := .none) (doc := .none) (pm := .str "boatlog.hulls" 307) (cdv := .ref 146) (ct := .none) X G b_is_to_leeward (by kernel_rfl) (by kernel_rfl) (by kernel_rfl) (by kernel_rfl)
theorem g_do_touch (X : (kW P).In h) (G : h.Ns mainGlobals mg) : FunG (kW P) mg "do_touch" s_do_touch ["one", "other"] := mkG (f := 154) (oc := .type "function") (od := none) (an := none) (osl := #[]) (kV := .none) (doc := .none) (pm := .str "boatlog.hulls" 307) (cdv := .ref 153) (ct := .none) X G b_do_touch (by kernel_rfl) (by kernel_rfl) (by kernel_rfl) (by kernel_rfl)
theorem g_is_in_zone (X : (kW P).In h) (G : h.Ns mainGlobals mg) : FunG (kW P) mg "is_in_zone" s_is_in_zone ["hull", "place", "lengths"] := mkG (f := 161) (oc := .type "function") (od := none) (an := none) (osl := #[]) (kV := .none) (doc := .none) (pm := .str "boatlog.hulls" 307) (cdv := .ref 160) (ct := .none) X G b_is_in_zone (by kernel_rfl) (by kernel_rfl) (by kernel_rfl) (by kernel_rfl)
theorem g_cut (X : (kW P).In h) (G : h.Ns mainGlobals mg) : FunG (kW P) mg "cut" s_cut ["signs", "mark"] := mkG (f := 168) (oc := .type "function") (od := none) (an := none) (osl := #[]) (kV := .none) (doc := .none) (pm := .str "boatlog.lines" 379) (cdv := .ref 167) (ct := .none) X G b_cut (by kernel_rfl) (by kernel_rfl) (by kernel_rfl) (by kernel_rfl)
theorem g_spelled (X : (kW P).In h) (G : h.Ns mainGlobals mg) : FunG (kW P) mg "spelled" s_spelled ["word"] := mkG (f := 173) (oc := .type "function") (od := none) (an := none) (osl := #[]) (kV := .none) (doc := .none) (pm := .str "boatlog.lines" 379) (cdv := .ref 172) (ct := .none) X G b_spelled (by kernel_rfl) (by kernel_rfl) (by kernel_rfl) (by kernel_rfl)
theorem g_is_digit (X : (kW P).In h) (G : h.Ns mainGlobals mg) : FunG (kW P) mg "is_digit" s_is_digit ["sign"] := mkG (f := 180) (oc := .type "function") (od := none) (an := none) (osl := #[]) (kV := .none) (doc := .none) (pm := .str "boatlog.lines" 379) (cdv := .ref 179) (ct := .none) X G b_is_digit (by kernel_rfl) (by kernel_rfl) (by kernel_rfl) (by kernel_rfl)
theorem g_is_name (X : (kW P).In h) (G : h.Ns mainGlobals mg) : FunG (kW P) mg "is_name" s_is_name ["word"] := mkG (f := 185) (oc := .type "function") (od := none) (an := none) (osl := #[]) (kV := .none) (doc := .none) (pm := .str "boatlog.lines" 379) (cdv := .ref 184) (ct := .none) X G b_is_name (by kernel_rfl) (by kernel_rfl) (by kernel_rfl) (by kernel_rfl)
theorem g_read_size (X : (kW P).In h) (G : h.Ns mainGlobals mg) : FunG (kW P) mg "read_size" s_read_size ["digits"] := mkG (f := 192) (oc := .type "function") (od := none) (an := none) (osl := #[]) (kV := .none) (doc := .none) (pm := .str "boatlog.lines" 379) (cdv := .ref 191) (ct := .none) X G b_read_size (by kernel_rfl) (by kernel_rfl) (by kernel_rfl) (by kernel_rfl)
theorem g_read_number (X : (kW P).In h) (G : h.Ns mainGlobals mg) : FunG (kW P) mg "read_number" s_read_number ["word"] := mkG (f := 199) (oc := .type "function") (od := none) (an := none) (osl := #[]) (kV := .none) (doc := .none) (pm := .str "boatlog.lines" 379) (cdv := .ref 198) (ct := .none) X G b_read_number (by kernel_rfl) (by kernel_rfl) (by kernel_rfl) (by kernel_rfl)
theorem g_read_numbers (X : (kW P).In h) (G : h.Ns mainGlobals mg) : FunG (kW P) mg "read_numbers" s_read_numbers ["words"] := mkG (f := 204) (oc := .type "function") (od := none) (an := none) (osl := #[]) (kV := .none) (doc := .none) (pm := .str "boatlog.lines" 379) (cdv := .ref 203) (ct := .none) X G b_read_numbers (by kernel_rfl) (by kernel_rfl) (by kernel_rfl) (by kernel_rfl)
theorem g_read_boat (X : (kW P).In h) (G : h.Ns mainGlobals mg) : FunG (kW P) mg "read_boat" s_read_boat ["words"] := mkG (f := 211) (oc := .type "function") (od := none) (an := none) (osl := #[]) (kV := .none) (doc := .none) (pm := .str "boatlog.lines" 379) (cdv := .ref 210) (ct := .none) X G b_read_boat (by kernel_rfl) (by kernel_rfl) (by kernel_rfl) (by kernel_rfl)
theorem g_read_wind (X : (kW P).In h) (G : h.Ns mainGlobals mg) : FunG (kW P) mg "read_wind" s_read_wind ["words"] := mkG (f := 218) (oc := .type "function") (od := none) (an := none) (osl := #[]) (kV := .none) (doc := .none) (pm := .str "boatlog.lines" 379) (cdv := .ref 217) (ct := .none) X G b_read_wind (by kernel_rfl) (by kernel_rfl) (by kernel_rfl) (by kernel_rfl)
theorem g_read_at (X : (kW P).In h) (G : h.Ns mainGlobals mg) : FunG (kW P) mg "read_at" s_read_at ["words"] := mkG (f := 223) (oc := .type "function") (od := none) (an := none) (osl := #[]) (kV := .none) (doc := .none) (pm := .str "boatlog.lines" 379) (cdv := .ref 222) (ct := .none) X G b_read_at (by kernel_rfl) (by kernel_rfl) (by kernel_rfl) (by kernel_rfl)
theorem g_read_line (X : (kW P).In h) (G : h.Ns mainGlobals mg) : FunG (kW P) mg "read_line" s_read_line ["line"] := mkG (f := 230) (oc := .type "function") (od := none) (an := none) (osl := #[]) (kV := .none) (doc := .none) (pm := .str "boatlog.lines" 379) (cdv := .ref 229) (ct := .none) X G b_read_line (by kernel_rfl) (by kernel_rfl) (by kernel_rfl) (by kernel_rfl)
theorem g_turned_by_half (X : (kW P).In h) (G : h.Ns mainGlobals mg) : FunG (kW P) mg "turned_by_half" s_turned_by_half ["before", "after"] := mkG (f := 237) (oc := .type "function") (od := none) (an := none) (osl := #[]) (kV := .none) (doc := .none) (pm := .str "boatlog.turns" 491) (cdv := .ref 236) (ct := .none) X G b_turned_by_half (by kernel_rfl) (by kernel_rfl) (by kernel_rfl) (by kernel_rfl)
theorem g_tack_after (X : (kW P).In h) (G : h.Ns mainGlobals mg) : FunG (kW P) mg "tack_after" s_tack_after ["before", "course", "wind"] := mkG (f := 244) (oc := .type "function") (od := none) (an := none) (osl := #[]) (kV := .none) (doc := .none) (pm := .str "boatlog.turns" 491) (cdv := .ref 243) (ct := .none) X G b_tack_after (by kernel_rfl) (by kernel_rfl) (by kernel_rfl) (by kernel_rfl)
theorem g_points_into (X : (kW P).In h) (G : h.Ns mainGlobals mg) : FunG (kW P) mg "points_into" s_points_into ["course", "wind"] := mkG (f := 251) (oc := .type "function") (od := none) (an := none) (osl := #[]) (kV := .none) (doc := .none) (pm := .str "boatlog.turns" 491) (cdv := .ref 250) (ct := .none) X G b_points_into (by kernel_rfl) (by kernel_rfl) (by kernel_rfl) (by kernel_rfl)
theorem g_is_left (X : (kW P).In h) (G : h.Ns mainGlobals mg) : FunG (kW P) mg "is_left" s_is_left ["course", "mark"] := mkG (f := 258) (oc := .type "function") (od := none) (an := none) (osl := #[]) (kV := .none) (doc := .none) (pm := .str "boatlog.turns" 491) (cdv := .ref 257) (ct := .none) X G b_is_left (by kernel_rfl) (by kernel_rfl) (by kernel_rfl) (by kernel_rfl)
theorem g_passing (X : (kW P).In h) (G : h.Ns mainGlobals mg) : FunG (kW P) mg "passing" s_passing ["mark", "before", "after"] := mkG (f := 265) (oc := .type "function") (od := none) (an := none) (osl := #[]) (kV := .none) (doc := .none) (pm := .str "boatlog.turns" 491) (cdv := .ref 264) (ct := .none) X G b_passing (by kernel_rfl) (by kernel_rfl) (by kernel_rfl) (by kernel_rfl)
theorem g_rounds (X : (kW P).In h) (G : h.Ns mainGlobals mg) : FunG (kW P) mg "rounds" s_rounds ["courses"] := mkG (f := 270) (oc := .type "function") (od := none) (an := none) (osl := #[]) (kV := .none) (doc := .none) (pm := .str "boatlog.turns" 491) (cdv := .ref 269) (ct := .none) X G b_rounds (by kernel_rfl) (by kernel_rfl) (by kernel_rfl) (by kernel_rfl)
theorem g_is_too_far (X : (kW P).In h) (G : h.Ns mainGlobals mg) : FunG (kW P) mg "is_too_far" s_is_too_far ["place"] := mkG (f := 394) (oc := .type "function") (od := none) (an := none) (osl := #[]) (kV := .none) (doc := .none) (pm := .str "boatlog.book" 731) (cdv := .ref 393) (ct := .none) X G b_is_too_far (by kernel_rfl) (by kernel_rfl) (by kernel_rfl) (by kernel_rfl)
theorem g_which (X : (kW P).In h) (G : h.Ns mainGlobals mg) : FunG (kW P) mg "which" s_which ["first", "second"] := mkG (f := 401) (oc := .type "function") (od := none) (an := none) (osl := #[]) (kV := .none) (doc := .none) (pm := .str "boatlog.book" 731) (cdv := .ref 400) (ct := .none) X G b_which (by kernel_rfl) (by kernel_rfl) (by kernel_rfl) (by kernel_rfl)
theorem g_answers (X : (kW P).In h) (G : h.Ns mainGlobals mg) : FunG (kW P) mg "answers" s_answers ["calls"] := mkG (f := 538) (oc := .type "function") (od := none) (an := none) (osl := #[]) (kV := .none) (doc := .none) (pm := .str "boatlog.desk" 942) (cdv := .ref 537) (ct := .none) X G b_answers (by kernel_rfl) (by kernel_rfl) (by kernel_rfl) (by kernel_rfl)
theorem g_has_row (X : (kW P).In h) (G : h.Ns mainGlobals mg) : FunG (kW P) mg "has_row" s_has_row ["call"] := mkG (f := 545) (oc := .type "function") (od := none) (an := none) (osl := #[]) (kV := .none) (doc := .none) (pm := .str "boatlog.desk" 942) (cdv := .ref 544) (ct := .none) X G b_has_row (by kernel_rfl) (by kernel_rfl) (by kernel_rfl) (by kernel_rfl)
theorem g_first_argument (X : (kW P).In h) (G : h.Ns mainGlobals mg) : FunG (kW P) mg "first_argument" s_first_argument ["calls", "place"] := mkG (f := 552) (oc := .type "function") (od := none) (an := none) (osl := #[]) (kV := .none) (doc := .none) (pm := .str "boatlog.desk" 942) (cdv := .ref 551) (ct := .none) X G b_first_argument (by kernel_rfl) (by kernel_rfl) (by kernel_rfl) (by kernel_rfl)
theorem g_count_arguments (X : (kW P).In h) (G : h.Ns mainGlobals mg) : FunG (kW P) mg "count_arguments" s_count_arguments ["calls", "place"] := mkG (f := 559) (oc := .type "function") (od := none) (an := none) (osl := #[]) (kV := .none) (doc := .none) (pm := .str "boatlog.desk" 942) (cdv := .ref 558) (ct := .none) X G b_count_arguments (by kernel_rfl) (by kernel_rfl) (by kernel_rfl) (by kernel_rfl)
theorem g_answer_one (X : (kW P).In h) (G : h.Ns mainGlobals mg) : FunG (kW P) mg "answer_one" s_answer_one ["book", "call", "given"] := mkG (f := 566) (oc := .type "function") (od := none) (an := none) (osl := #[]) (kV := .none) (doc := .none) (pm := .str "boatlog.desk" 942) (cdv := .ref 565) (ct := .none) X G b_answer_one (by kernel_rfl) (by kernel_rfl) (by kernel_rfl) (by kernel_rfl)
theorem g_answer_sailing (X : (kW P).In h) (G : h.Ns mainGlobals mg) : FunG (kW P) mg "answer_sailing" s_answer_sailing ["book", "call", "given"] := mkG (f := 573) (oc := .type "function") (od := none) (an := none) (osl := #[]) (kV := .none) (doc := .none) (pm := .str "boatlog.desk" 942) (cdv := .ref 572) (ct := .none) X G b_answer_sailing (by kernel_rfl) (by kernel_rfl) (by kernel_rfl) (by kernel_rfl)
theorem m_CM_heads_into_wind : FunM (kW P) 301 "heads_into_wind" "Moment.heads_into_wind" s_Moment_heads_into_wind ["self", "i"] := mkM (f := 291) (oc := .type "function") (od := none) (an := none) (osl := #[]) (kV := .none) (doc := .none) (pm := .str "boatlog.log" 552) (cdv := .ref 290) (ct := .none) b_Moment_heads_into_wind rCM (by kernel_rfl) (by kernel_rfl) (by kernel_rfl) (by kernel_rfl) (by kernel_rfl)
theorem m_CM_change_since : FunM (kW P) 301 "change_since" "Moment.change_since" s_Moment_change_since ["self", "before", "i"] := mkM (f := 298) (oc := .type "function") (od := none) (an := none) (osl := #[]) (kV := .none) (doc := .none) (pm := .str "boatlog.log" 552) (cdv := .ref 297) (ct := .none) b_Moment_change_since rCM (by kernel_rfl) (by kernel_rfl) (by kernel_rfl) (by kernel_rfl) (by kernel_rfl)
theorem m_CL_copied : FunM (kW P) 383 "copied" "Log.copied" s_Log_copied ["self"] := mkM (f := 326) (oc := .type "function") (od := none) (an := none) (osl := #[]) (kV := .none) (doc := .none) (pm := .str "boatlog.log" 552) (cdv := .ref 325) (ct := .none) b_Log_copied rCL (by kernel_rfl) (by kernel_rfl) (by kernel_rfl) (by kernel_rfl) (by kernel_rfl)
theorem m_CL_write : FunM (kW P) 383 "write" "Log.write" s_Log_write ["self", "text"] := mkM (f := 333) (oc := .type "function") (od := none) (an := none) (osl := #[]) (kV := .none) (doc := .none) (pm := .str "boatlog.log" 552) (cdv := .ref 332) (ct := .none) b_Log_write rCL (by kernel_rfl) (by kernel_rfl) (by kernel_rfl) (by kernel_rfl) (by kernel_rfl)
theorem m_CL_add_line : FunM (kW P) 383 "add_line" "Log.add_line" s_Log_add_line ["self", "line"] := mkM (f := 340) (oc := .type "function") (od := none) (an := none) (osl := #[]) (kV := .none) (doc := .none) (pm := .str "boatlog.log" 552) (cdv := .ref 339) (ct := .none) b_Log_add_line rCL (by kernel_rfl) (by kernel_rfl) (by kernel_rfl) (by kernel_rfl) (by kernel_rfl)
theorem m_CL_add_told : FunM (kW P) 383 "add_told" "Log.add_told" s_Log_add_told ["self", "kind", "told"] := mkM (f := 347) (oc := .type "function") (od := none) (an := none) (osl := #[]) (kV := .none) (doc := .none) (pm := .str "boatlog.log" 552) (cdv := .ref 346) (ct := .none) b_Log_add_told rCL (by kernel_rfl) (by kernel_rfl) (by kernel_rfl) (by kernel_rfl) (by kernel_rfl)
theorem m_CL_add_boat : FunM (kW P) 383 "add_boat" "Log.add_boat" s_Log_add_boat ["self", "name"] := mkM (f := 354) (oc := .type "function") (od := none) (an := none) (osl := #[]) (kV := .none) (doc := .none) (pm := .str "boatlog.log" 552) (cdv := .ref 353) (ct := .none) b_Log_add_boat rCL (by kernel_rfl) (by kernel_rfl) (by kernel_rfl) (by kernel_rfl) (by kernel_rfl)
theorem m_CL_add_wind : FunM (kW P) 383 "add_wind" "Log.add_wind" s_Log_add_wind ["self", "wind"] := mkM (f := 361) (oc := .type "function") (od := none) (an := none) (osl := #[]) (kV := .none) (doc := .none) (pm := .str "boatlog.log" 552) (cdv := .ref 360) (ct := .none) b_Log_add_wind rCL (by kernel_rfl) (by kernel_rfl) (by kernel_rfl) (by kernel_rfl) (by kernel_rfl)
theorem m_CL_add_moment : FunM (kW P) 383 "add_moment" "Log.add_moment" s_Log_add_moment ["self", "hulls"] := mkM (f := 368) (oc := .type "function") (od := none) (an := none) (osl := #[]) (kV := .none) (doc := .none) (pm := .str "boatlog.log" 552) (cdv := .ref 367) (ct := .none) b_Log_add_moment rCL (by kernel_rfl) (by kernel_rfl) (by kernel_rfl) (by kernel_rfl) (by kernel_rfl)
theorem m_CL_hulls_clash : FunM (kW P) 383 "hulls_clash" "Log.hulls_clash" s_Log_hulls_clash ["self", "hulls"] := mkM (f := 375) (oc := .type "function") (od := none) (an := none) (osl := #[]) (kV := .none) (doc := .none) (pm := .str "boatlog.log" 552) (cdv := .ref 374) (ct := .none) b_Log_hulls_clash rCL (by kernel_rfl) (by kernel_rfl) (by kernel_rfl) (by kernel_rfl) (by kernel_rfl)
theorem m_CL_tacks_with : FunM (kW P) 383 "tacks_with" "Log.tacks_with" s_Log_tacks_with ["self", "hulls"] := mkM (f := 380) (oc := .type "function") (od := none) (an := none) (osl := #[]) (kV := .none) (doc := .none) (pm := .str "boatlog.log" 552) (cdv := .ref 379) (ct := .none) b_Log_tacks_with rCL (by kernel_rfl) (by kernel_rfl) (by kernel_rfl) (by kernel_rfl) (by kernel_rfl)
theorem m_CB_take : FunM (kW P) 526 "take" "Book.take" s_Book_take ["self", "text"] := mkM (f := 422) (oc := .type "function") (od := none) (an := none) (osl := #[]) (kV := .none) (doc := .none) (pm := .str "boatlog.book" 731) (cdv := .ref 421) (ct := .none) b_Book_take rCB (by kernel_rfl) (by kernel_rfl) (by kernel_rfl) (by kernel_rfl) (by kernel_rfl)
theorem m_CB_more : FunM (kW P) 526 "more" "Book.more" s_Book_more ["self", "text"] := mkM (f := 429) (oc := .type "function") (od := none) (an := none) (osl := #[]) (kV := .none) (doc := .none) (pm := .str "boatlog.book" 731) (cdv := .ref 428) (ct := .none) b_Book_more rCB (by kernel_rfl) (by kernel_rfl) (by kernel_rfl) (by kernel_rfl) (by kernel_rfl)
theorem m_CB_hold_grown : FunM (kW P) 526 "hold_grown" "Book.hold_grown" s_Book_hold_grown ["self", "log", "text"] := mkM (f := 436) (oc := .type "function") (od := none) (an := none) (osl := #[]) (kV := .none) (doc := .none) (pm := .str "boatlog.book" 731) (cdv := .ref 435) (ct := .none) b_Book_hold_grown rCB (by kernel_rfl) (by kernel_rfl) (by kernel_rfl) (by kernel_rfl) (by kernel_rfl)
theorem m_CB_text : FunM (kW P) 526 "text" "Book.text" s_Book_text ["self"] := mkM (f := 443) (oc := .type "function") (od := none) (an := none) (osl := #[]) (kV := .none) (doc := .none) (pm := .str "boatlog.book" 731) (cdv := .ref 442) (ct := .none) b_Book_text rCB (by kernel_rfl) (by kernel_rfl) (by kernel_rfl) (by kernel_rfl) (by kernel_rfl)
theorem m_CB_sizes : FunM (kW P) 526 "sizes" "Book.sizes" s_Book_sizes ["self"] := mkM (f := 450) (oc := .type "function") (od := none) (an := none) (osl := #[]) (kV := .none) (doc := .none) (pm := .str "boatlog.book" 731) (cdv := .ref 449) (ct := .none) b_Book_sizes rCB (by kernel_rfl) (by kernel_rfl) (by kernel_rfl) (by kernel_rfl) (by kernel_rfl)
theorem m_CB_name : FunM (kW P) 526 "name" "Book.name" s_Book_name ["self", "i"] := mkM (f := 457) (oc := .type "function") (od := none) (an := none) (osl := #[]) (kV := .none) (doc := .none) (pm := .str "boatlog.book" 731) (cdv := .ref 456) (ct := .none) b_Book_name rCB (by kernel_rfl) (by kernel_rfl) (by kernel_rfl) (by kernel_rfl) (by kernel_rfl)
theorem m_CB_boat : FunM (kW P) 526 "boat" "Book.boat" s_Book_boat ["self", "i", "m"] := mkM (f := 464) (oc := .type "function") (od := none) (an := none) (osl := #[]) (kV := .none) (doc := .none) (pm := .str "boatlog.book" 731) (cdv := .ref 463) (ct := .none) b_Book_boat rCB (by kernel_rfl) (by kernel_rfl) (by kernel_rfl) (by kernel_rfl) (by kernel_rfl)
theorem m_CB_tack : FunM (kW P) 526 "tack" "Book.tack" s_Book_tack ["self", "i", "m"] := mkM (f := 471) (oc := .type "function") (od := none) (an := none) (osl := #[]) (kV := .none) (doc := .none) (pm := .str "boatlog.book" 731) (cdv := .ref 470) (ct := .none) b_Book_tack rCB (by kernel_rfl) (by kernel_rfl) (by kernel_rfl) (by kernel_rfl) (by kernel_rfl)
theorem m_CB_next_change : FunM (kW P) 526 "next_change" "Book.next_change" s_Book_next_change ["self", "i", "m"] := mkM (f := 478) (oc := .type "function") (od := none) (an := none) (osl := #[]) (kV := .none) (doc := .none) (pm := .str "boatlog.book" 731) (cdv := .ref 477) (ct := .none) b_Book_next_change rCB (by kernel_rfl) (by kernel_rfl) (by kernel_rfl) (by kernel_rfl) (by kernel_rfl)
theorem m_CB_rounds_made : FunM (kW P) 526 "rounds_made" "Book.rounds_made" s_Book_rounds_made ["self", "i", "m", "k"] := mkM (f := 483) (oc := .type "function") (od := none) (an := none) (osl := #[]) (kV := .none) (doc := .none) (pm := .str "boatlog.book" 731) (cdv := .ref 482) (ct := .none) b_Book_rounds_made rCB (by kernel_rfl) (by kernel_rfl) (by kernel_rfl) (by kernel_rfl) (by kernel_rfl)
theorem m_CB_pair : FunM (kW P) 526 "pair" "Book.pair" s_Book_pair ["self", "i", "j", "m"] := mkM (f := 490) (oc := .type "function") (od := none) (an := none) (osl := #[]) (kV := .none) (doc := .none) (pm := .str "boatlog.book" 731) (cdv := .ref 489) (ct := .none) b_Book_pair rCB (by kernel_rfl) (by kernel_rfl) (by kernel_rfl) (by kernel_rfl) (by kernel_rfl)
theorem m_CB_zone : FunM (kW P) 526 "zone" "Book.zone" s_Book_zone ["self", "i", "m", "place", "k"] := mkM (f := 497) (oc := .type "function") (od := none) (an := none) (osl := #[]) (kV := .none) (doc := .none) (pm := .str "boatlog.book" 731) (cdv := .ref 496) (ct := .none) b_Book_zone rCB (by kernel_rfl) (by kernel_rfl) (by kernel_rfl) (by kernel_rfl) (by kernel_rfl)
theorem m_CB_over : FunM (kW P) 526 "over" "Book.over" s_Book_over ["self", "i", "m", "p", "q"] := mkM (f := 502) (oc := .type "function") (od := none) (an := none) (osl := #[]) (kV := .none) (doc := .none) (pm := .str "boatlog.book" 731) (cdv := .ref 501) (ct := .none) b_Book_over rCB (by kernel_rfl) (by kernel_rfl) (by kernel_rfl) (by kernel_rfl) (by kernel_rfl)
theorem m_CB_touch : FunM (kW P) 526 "touch" "Book.touch" s_Book_touch ["self", "i", "j", "m"] := mkM (f := 509) (oc := .type "function") (od := none) (an := none) (osl := #[]) (kV := .none) (doc := .none) (pm := .str "boatlog.book" 731) (cdv := .ref 508) (ct := .none) b_Book_touch rCB (by kernel_rfl) (by kernel_rfl) (by kernel_rfl) (by kernel_rfl) (by kernel_rfl)
theorem m_CB_has_boat : FunM (kW P) 526 "has_boat" "Book.has_boat" s_Book_has_boat ["self", "i"] := mkM (f := 516) (oc := .type "function") (od := none) (an := none) (osl := #[]) (kV := .none) (doc := .none) (pm := .str "boatlog.book" 731) (cdv := .ref 515) (ct := .none) b_Book_has_boat rCB (by kernel_rfl) (by kernel_rfl) (by kernel_rfl) (by kernel_rfl) (by kernel_rfl)
theorem m_CB_has_moment : FunM (kW P) 526 "has_moment" "Book.has_moment" s_Book_has_moment ["self", "m"] := mkM (f := 523) (oc := .type "function") (od := none) (an := none) (osl := #[]) (kV := .none) (doc := .none) (pm := .str "boatlog.book" 731) (cdv := .ref 522) (ct := .none) b_Book_has_moment rCB (by kernel_rfl) (by kernel_rfl) (by kernel_rfl) (by kernel_rfl) (by kernel_rfl)
theorem i_Moment (X : (kW P).In h) (G : h.Ns mainGlobals mg) : FunC (kW P) mg 301 "Moment" "Moment.__init__" s_Moment_init ["self", "hulls", "wind", "tacks"] := mkC (f := 284) (oc := .type "function") (od := none) (an := none) (osl := #[]) (kV := .none) (doc := .none) (pm := .str "boatlog.log" 552) (cdv := .ref 283) (ct := .none) X G b_Moment_init rCM (by kernel_rfl) (by kernel_rfl) (by kernel_rfl) (by kernel_rfl) (by kernel_rfl) (by kernel_rfl) (by kernel_rfl)
theorem i_Log (X : (kW P).In h) (G : h.Ns mainGlobals mg) : FunC (kW P) mg 383 "Log" "Log.__init__" s_Log_init ["self"] := mkC (f := 319) (oc := .type "function") (od := none) (an := none) (osl := #[]) (kV := .none) (doc := .none) (pm := .str "boatlog.log" 552) (cdv := .ref 318) (ct := .none) X G b_Log_init rCL (by kernel_rfl) (by kernel_rfl) (by kernel_rfl) (by kernel_rfl) (by kernel_rfl) (by kernel_rfl) (by kernel_rfl)
theorem i_Book (X : (kW P).In h) (G : h.Ns mainGlobals mg) : FunC (kW P) mg 526 "Book" "Book.__init__" s_Book_init ["self"] := mkC (f := 415) (oc := .type "function") (od := none) (an := none) (osl := #[]) (kV := .none) (doc := .none) (pm := .str "boatlog.book" 731) (cdv := .ref 414) (ct := .none) X G b_Book_init rCB (by kernel_rfl) (by kernel_rfl) (by kernel_rfl) (by kernel_rfl) (by kernel_rfl) (by kernel_rfl) (by kernel_rfl)
theorem allF (X : (kW P).In h) (G : h.Ns mainGlobals mg) : All (kW P) mg 383 301 526 := ⟨g_minus X G, g_plus X G, g_cross X G, g_dot X G, g_square X G, g_side X G, g_goes_over X G, g_when_over X G, g_lowest X G, g_meet X G, g_reaches_meet X G, g_is_near X G, g_bow X G, g_stern X G, g_heading X G, g_middle X G, g_is_behind X G, g_is_clear_astern X G, g_is_to_leeward X G, g_do_touch X G, g_is_in_zone X G, g_cut X G, g_spelled X G, g_is_digit X G, g_is_name X G, g_read_size X G, g_read_number X G, g_read_numbers X G, g_read_boat X G, g_read_wind X G, g_read_at X G, g_read_line X G, g_turned_by_half X G, g_tack_after X G, g_points_into X G, g_is_left X G, g_passing X G, g_rounds X G, g_is_too_far X G, g_which X G, g_answers X G, g_has_row X G, g_first_argument X G, g_count_arguments X G, g_answer_one X G, g_answer_sailing X G, m_CM_heads_into_wind, m_CM_change_since, m_CL_copied, m_CL_write, m_CL_add_line, m_CL_add_told, m_CL_add_boat, m_CL_add_wind, m_CL_add_moment, m_CL_hulls_clash, m_CL_tacks_with, m_CB_take, m_CB_more, m_CB_hold_grown, m_CB_text, m_CB_sizes, m_CB_name, m_CB_boat, m_CB_tack, m_CB_next_change, m_CB_rounds_made, m_CB_pair, m_CB_zone, m_CB_over, m_CB_touch, m_CB_has_boat, m_CB_has_moment, i_Moment X G, i_Log X G, i_Book X G⟩
end
end Bl
end
open PySem PySem.W PyProof.Rows
set_option maxRecDepth 100000 in
set_option maxHeartbeats 0 in
theorem PySem.Challenge.cw_boatlog_s01_answers_holds : PySem.Challenge.rw_boatlog_s01_answers.Holds := by
  refine holds_os (q := Bl.qv Bl.pW) (loose := Bl.looseN Bl.pW) (Xt := Bl.xtP Bl.pW) (XP := XL (Bl.qv Bl.pW) []) (Yf := Bl.yfK) (Ya := Bl.yaK) (YP := InK (Bl.kfr Bl.pW)) (N := 7700) Bl.left_R
    (InK.of (fun _ => by kernel_rfl)) InK.keeps (fun s e => xl_of s (Bool.and_eq_true_iff.mp e).1) XL.keeps (by rfl) (by rfl) (by rfl) (fun s e => recFacts_of (Bool.and_eq_true_iff.mp e).2) os_shapes (by decide +kernel) (by decide +kernel) ⟨rfl, rfl, rfl, rfl, rfl, by decide +kernel⟩
    ⟨[.list [.int 2]], by decide +kernel, by decide +kernel⟩ ?hc
  refine L2.walk_specK (r := PySem.Challenge.rw_boatlog_s01_answers) (k := 12) (K := Bl.kfr Bl.pW) (CX := L2.CX0) (ps := ["calls"]) (sp := Bl.spAns) (by decide +kernel) rfl rfl ⟨rfl, by decide, by decide⟩ (fun w h Y => Y) ?F ?S (fun _ _ _ _ z => z)
  case F =>
    intro w mg fa h Y KX G hmg
    obtain ⟨d, hd, kd⟩ := Bl.dictF KX G
    exact Bl.fin (Bl.allF KX G) (Bl.txtF KX G) Bl.csF hd kd hmg
  case S =>
    intro K H xs a hO hwi hask hx
    cases hx with
    | cons h1 h2 =>
      cases h2
      cases h1 with
      | lst hs ha =>
        have e := L2.ints_dw a.1 _ ha
        subst e
        have q : ((Codec.inLen 0 30000 a.1 && a.1.all (Codec.inInt (Int.negSucc 2147483647) (Int.ofNat 4294967295))) && true) = true := hwi
        rw [Bool.and_eq_true, Bool.and_eq_true] at q
        exact ⟨_, a.1, rfl, hs, (Codec.inNat_iff.mp q.1.1).2, hask, fun H' p hp => .lst (L2.SqL.of hp) (L2.dw_ints _)⟩
#print axioms PySem.Challenge.cw_boatlog_s01_answers_holds
