import PyProof.Rows.All
import Wide.All
import OpenK.AllK
import Wide.FinOn
import PyProof.EqAt
import PyProof.EqKinds
import PyProof.TupleCall
import KE.BitLaws
import Open.SpecLaws
import KE.OsHead
import KE.OsGo
import PySem.Challenge.RW_honestslot_s01_answers
section
set_option Elab.async false
set_option linter.all false
set_option maxRecDepth 100000
namespace L2
open PySem PySem.Spec PyProof.Rows
abbrev Key := Sum Int Str
def keyIs : Key → Value → Bool
  | .inl k, v => Value.isInt k v
  | .inr x, v => Value.isStrOf x v
def keyH (w : World) : Key → Int
  | .inl k => hashInt k
  | .inr x => hashStr w x
theorem keyIs_shape : ∀ {k : Key} {v : Value}, keyIs k v = true → (∃ i t, k = Sum.inl i ∧ v = Value.int i t) ∨ (∃ x t, k = Sum.inr x ∧ v = Value.str x t)
  | .inl i, v, h => by
    obtain ⟨t, e⟩ := Value.isInt_shape (k := i) (v := v) h
    exact .inl ⟨i, t, rfl, e⟩
  | .inr x, v, h => by
    obtain ⟨t, e⟩ := Value.isStrOf_shape (x := x) (v := v) h
    exact .inr ⟨x, t, rfl, e⟩
theorem key_ll (a b : Int) : decide ((Sum.inl a : Key) = Sum.inl b) = (a == b) := by
  by_cases e : a = b
  · subst e; simp
  · have h : ¬ (Sum.inl a : Key) = Sum.inl b := fun q => e (Sum.inl.inj q)
    rw [decide_eq_false h]
    exact (beq_eq_false_iff_ne.mpr e).symm
theorem key_rr (a b : Str) : decide ((Sum.inr a : Key) = Sum.inr b) = decide (a = b) := by
  by_cases e : a = b
  · subst e; simp
  · have h : ¬ (Sum.inr a : Key) = Sum.inr b := fun q => e (Sum.inr.inj q)
    rw [decide_eq_false h, decide_eq_false e]
theorem key_lr (a : Int) (b : Str) : decide ((Sum.inl a : Key) = Sum.inr b) = false := decide_eq_false (fun q => nomatch q)
theorem key_rl (a : Str) (b : Int) : decide ((Sum.inr a : Key) = Sum.inl b) = false := decide_eq_false (fun q => nomatch q)
def mixKind (prog : Program) (w : World) : PySem.KeyKind prog w Key where
  is := keyIs
  hash := keyH w
  inj := fun v a b ha hb => by
    rcases keyIs_shape ha with ⟨i, t, rfl, rfl⟩ | ⟨x, t, rfl, rfl⟩
    · rcases keyIs_shape hb with ⟨j, u, rfl, e⟩ | ⟨y, u, rfl, e⟩
      · injection e with e1 _; rw [e1]
      · exact nomatch e
    · rcases keyIs_shape hb with ⟨j, u, rfl, e⟩ | ⟨y, u, rfl, e⟩
      · exact nomatch e
      · injection e with e1 _; rw [e1]
  byValue := fun k v h => by
    rcases keyIs_shape h with ⟨i, t, rfl, rfl⟩ | ⟨x, t, rfl, rfl⟩ <;> rfl
  pyHash := fun hv h => by
    rcases keyIs_shape hv with ⟨i, t, rfl, rfl⟩ | ⟨x, t, rfl, rfl⟩
    · exact wpAny_pyHash_int h
    · exact wpAny_pyHash_str h
  eqBool := fun hu hv h => by
    rcases keyIs_shape hu with ⟨i, t, rfl, rfl⟩ | ⟨x, t, rfl, rfl⟩
    · rcases keyIs_shape hv with ⟨j, u, rfl, rfl⟩ | ⟨y, u, rfl, rfl⟩
      · rw [key_ll] at h; exact wpAny_eqBool_int h
      · rw [key_lr] at h; exact SeqAt.EqAt.int_str i t y u _ _ _ _ h
    · rcases keyIs_shape hv with ⟨j, u, rfl, rfl⟩ | ⟨y, u, rfl, rfl⟩
      · rw [key_rl] at h; exact SeqAt.EqAt.str_int x t j u _ _ _ _ h
      · rw [key_rr] at h; exact wpAny_eqBool_str h
  «strs» := fun k x t v h => by
    rcases keyIs_shape h with ⟨i, u, rfl, e⟩ | ⟨y, u, rfl, e⟩
    · exact nomatch e
    · injection e with e1 _
      subst e1
      cases v <;> rfl
end L2
namespace L2
open PySem PySem.Spec PyProof.Rows
inductive V where
  | non | bl (b : Bool) | int (i : Int) | str (x : Str) | byt (b : Array UInt8) | flt (b : UInt64) | ref (a : Addr) | ty (n : String)
  deriving DecidableEq
def RelV : V → Value → Prop
  | .non, u => u = Value.none
  | .bl b, u => u = Value.bool b
  | .int i, u => ∃ t, u = Value.int i t
  | .str x, u => ∃ t, u = Value.str x t
  | .byt b, u => ∃ t, u = Value.bytes b t
  | .flt b, u => ∃ t, u = Value.float b t
  | .ref a, u => u = Value.ref a
  | .ty n, u => u = Value.type n
abbrev Vals : List V → List Value → Prop := Paired RelV
theorem Vals.length {xs : List V} {us : List Value} (r : Vals xs us) : xs.length = us.length := Paired.length r
theorem Vals.get : ∀ {xs : List V} {us : List Value} {i : Nat} {x : V}, Vals xs us → xs[i]? = some x → ∃ u, us[i]? = some u ∧ RelV x u
  | _, _, _, _, .nil, e => by simp at e
  | _, _, 0, _, .cons r _, e => by simp at e; subst e; exact ⟨_, rfl, r⟩
  | _, _, i + 1, x, .cons _ t, e => by
    obtain ⟨u, h1, h2⟩ := Vals.get (i := i) (x := x) t (by simpa using e)
    exact ⟨u, by simpa using h1, h2⟩
theorem Vals.set {x : V} {u : Value} (r : RelV x u) : ∀ {xs : List V} {us : List Value} (i : Nat), Vals xs us → Vals (xs.set i x) (us.set i u)
  | _, _, _, .nil => .nil
  | _, _, 0, .cons _ t => .cons r t
  | _, _, i + 1, .cons q t => .cons q (Vals.set r i t)
theorem Vals.append : ∀ {xs ys : List V} {us ws : List Value}, Vals xs us → Vals ys ws → Vals (xs ++ ys) (us ++ ws)
  | _, _, _, _, .nil, s => s
  | _, _, _, _, .cons r t, s => .cons r (Vals.append t s)
theorem Vals.take : ∀ {xs : List V} {us : List Value} (n : Nat), Vals xs us → Vals (xs.take n) (us.take n)
  | _, _, 0, _ => .nil
  | _, _, _ + 1, .nil => .nil
  | _, _, n + 1, .cons r t => .cons r (Vals.take n t)
theorem Vals.drop : ∀ {xs : List V} {us : List Value} (n : Nat), Vals xs us → Vals (xs.drop n) (us.drop n)
  | _, _, 0, r => r
  | _, _, _ + 1, .nil => .nil
  | _, _, n + 1, .cons _ t => Vals.drop n t
def RelO : Option V → Option Value → Prop
  | some v, some u => RelV v u
  | none, none => True
  | _, _ => False
def KV {κ : Type} : List (κ × V) → List (κ × Value) → Prop := Paired fun (p : κ × V) (q : κ × Value) => p.1 = q.1 ∧ RelV p.2 q.2
def kV : Key → V
  | .inl i => .int i
  | .inr x => .str x
inductive HO where
  
  | lst (xs : List V)
  
  | tup (xs : List V)
  
  | dK (kvs : List (Key × V)) | dT (kvs : List (List Key × V))
  
  | set (S : Int → Bool) (n : Nat)
  
  | ins (C dx : Addr) (fs : List (Str × V))
  
  | own (x : Addr)
  
  | xd (fs : List (Str × V))
  
  | met (f x : Addr)
  
  | rng (lo hi : Int)
  
  | frz (o : Obj) (u : HO)
  
  | tbl (ps : Array Value)
  
  | ext (φ : Heap → Prop)
abbrev Hp := Addr → Option HO
def upd (H : Hp) (a : Addr) (o : HO) : Hp := fun b => if b = a then some o else H b
theorem upd_same {H : Hp} {a : Addr} {o : HO} : upd H a o a = some o := by unfold upd; rw [if_pos rfl]
theorem upd_ne {H : Hp} {a b : Addr} {o : HO} (h : b ≠ a) : upd H a o b = H b := by unfold upd; rw [if_neg h]
theorem ne_of {H : Hp} {a b : Addr} {o u : HO} (h : H a = some o) (h' : H b = some u) (d : o ≠ u) : a ≠ b := by
  intro e; subst e; rw [h] at h'; exact d (Option.some.inj h')
theorem ne_of_none {H : Hp} {a b : Addr} {o : HO} (h : H a = some o) (h' : H b = none) : a ≠ b := by
  intro e; subst e; rw [h] at h'; cases h'
section
variable (P : Program) (w : World)
def ObjOk (H : Hp) (h : Heap) (a : Addr) : HO → Prop
  | .lst xs => xs.length ≤ sizeLine ∧ ∃ (its : List Value) (n : Nat), Vals xs its ∧ h.get? a = some { cls := .type "list", data := .seq its.toArray n }
  | .tup xs => xs.length ≤ sizeLine ∧ ∃ its : List Value, Vals xs its ∧ IsTup h a its.toArray
  | .dK kvs => kvs.length ≤ sizeLine ∧ (a == sysModules) = false ∧ ∃ vs, KV kvs vs ∧ h.DictOf (mixKind P w) a vs
  | .dT kvs => kvs.length ≤ sizeLine ∧ (a == sysModules) = false ∧ ∃ xs : List (List Key × Addr × Value),
      Paired (fun (p : List Key × V) (q : List Key × Addr × Value) => p.1 = q.1 ∧ H q.2.1 = some (.tup (p.1.map kV)) ∧ RelV p.2 q.2.2) kvs xs ∧
      ∃ o es ep, h.get? a = some o ∧ o.ExactDict ∧ o.data = .dict es ep ∧ es.toList = xs.map (entryOfKey (tupleKind (mixKind P w))) ∧ (xs.map (·.1)).Nodup
  | .set S n => h.SetOf (intKind P w) a S n
  | .ins C dx fs => H dx = some (.own a) ∧ fs.length ≤ 1000 ∧ dx ≠ a ∧ h.get? a = some (PySem.W.instObj C dx) ∧
      ∃ mA, h.Ns1 dx mA ∧ (∀ f, RelO (fs.lookup f) (mA f)) ∧ PySem.Within mA (fs.map (·.1))
  | .own _ => ∃ o, h.get? a = some o
  | .xd fs => ∃ mA, h.Ns1 a mA ∧ ∀ f, RelO (fs.lookup f) (mA f)
  | .rng lo hi => ∃ t u v, h.get? a = some { cls := .type "range", data := .fields #[.int lo t, .int hi u, .int 1 v] }
  | .frz o u => h.get? a = some o ∧ ObjOk H h a u
  | .tbl ps => h.get? a = some { cls := .none, data := .fields ps }
  | .met f x => h.get? a = some (PySem.W.methodObj (.ref f) (.ref x))
  | .ext φ => φ h ∧ (∃ o, h.get? a = some o) ∧ ∀ h1 h2 : Heap, φ h1 → (∀ o, h1.get? a = some o → h2.get? a = some o) → φ h2
def HOk (H : Hp) (h : Heap) : Prop := ∀ a o, H a = some o → ObjOk P w H h a o
end
section
variable {P : Program} {w : World} {H H' : Hp} {h h' : Heap} {a : Addr} {o : HO}
theorem ObjOk.lt (x : ObjOk P w H h a o) : a < h.objs.size := by
  cases o with
  | lst xs => obtain ⟨_, _, _, _, e⟩ := x; exact Heap.lt_size e
  | tup xs => obtain ⟨_, _, _, p⟩ := x; exact p.lt
  | dK kvs => obtain ⟨_, _, _, _, o, _, _, e, _⟩ := x; exact Heap.lt_size e
  | dT kvs => obtain ⟨_, _, _, _, o, _, _, e, _⟩ := x; exact Heap.lt_size e
  | set S n => obtain ⟨o, _, _, _, e, _⟩ := x; exact Heap.lt_size e
  | ins C dx fs => obtain ⟨_, _, _, e, _⟩ := x; exact Heap.lt_size e
  | own y => obtain ⟨_, e⟩ := x; exact Heap.lt_size e
  | xd fs => obtain ⟨_, ⟨_, _, _, e, _⟩, _⟩ := x; exact Heap.lt_size e
  | rng lo hi => obtain ⟨_, _, _, e⟩ := x; exact Heap.lt_size e
  | frz ob u => obtain ⟨e, _⟩ := x; exact Heap.lt_size e
  | tbl ps => exact Heap.lt_size (show h.get? a = some _ from x)
  | met f y => exact Heap.lt_size (show h.get? a = some _ from x)
  | ext φ => obtain ⟨_, ⟨_, e⟩, _⟩ := x; exact Heap.lt_size e
theorem Paired.mapP {α β : Type} {F G : α → β → Prop} : ∀ {l₁ : List α} {l₂ : List β}, Paired F l₁ l₂ → (∀ a b, F a b → G a b) → Paired G l₁ l₂
  | _, _, .nil, _ => .nil
  | _, _, .cons r t, f => .cons (f _ _ r) (Paired.mapP t f)
theorem ObjOk.stay (x : ObjOk P w H h a o) (k : ∀ b u, (b = a ∨ H b = some (.own a)) → h.get? b = some u → h'.get? b = some u)
    (ho : ∀ b, H b = some (.own a) → H' b = some (.own a)) (ht : ∀ b xs, H b = some (.tup xs) → H' b = some (.tup xs)) : ObjOk P w H' h' a o := by
  induction o with
  | lst xs => obtain ⟨z, its, n, r, e⟩ := x; exact ⟨z, its, n, r, k _ _ (.inl rfl) e⟩
  | tup xs => obtain ⟨z, its, r, ob, e, c⟩ := x; exact ⟨z, its, r, ob, k _ _ (.inl rfl) e, c⟩
  | dK kvs => obtain ⟨z, y, vs, r, ob, es, ep, e, c⟩ := x; exact ⟨z, y, vs, r, ob, es, ep, k _ _ (.inl rfl) e, c⟩
  | dT kvs =>
    obtain ⟨z, y, xs, r, ob, es, ep, e, c⟩ := x
    exact ⟨z, y, xs, Paired.mapP r fun p q z => ⟨z.1, ht _ _ z.2.1, z.2.2⟩, ob, es, ep, k _ _ (.inl rfl) e, c⟩
  | set S n => obtain ⟨ob, es, ep, t, e, c⟩ := x; exact ⟨ob, es, ep, t, k _ _ (.inl rfl) e, c⟩
  | ins C dx fs =>
    obtain ⟨d, z, ne, e, mA, ⟨od, es, ep, e2, c⟩, r⟩ := x
    exact ⟨ho _ d, z, ne, k _ _ (.inl rfl) e, mA, ⟨od, es, ep, k _ _ (.inr d) e2, c⟩, r⟩
  | own y => obtain ⟨ob, e⟩ := x; exact ⟨ob, k _ _ (.inl rfl) e⟩
  | xd fs => obtain ⟨mA, ⟨od, es, ep, e, c⟩, r⟩ := x; exact ⟨mA, ⟨od, es, ep, k _ _ (.inl rfl) e, c⟩, r⟩
  | rng lo hi => obtain ⟨t, u, v, e⟩ := x; exact ⟨t, u, v, k _ _ (.inl rfl) e⟩
  | frz ob u ih => obtain ⟨e, q⟩ := x; exact ⟨k _ _ (.inl rfl) e, ih q⟩
  | tbl ps =>
    have e : h.get? a = some { cls := .none, data := .fields ps } := x
    show h'.get? a = some { cls := .none, data := .fields ps }
    exact k a _ (.inl rfl) e
  | met f y =>
    have e : h.get? a = some (PySem.W.methodObj (.ref f) (.ref y)) := x
    show h'.get? a = some (PySem.W.methodObj (.ref f) (.ref y))
    exact k a _ (.inl rfl) e
  | ext φ => obtain ⟨p, ⟨o, e⟩, st⟩ := x; exact ⟨st _ _ p fun o q => k _ _ (.inl rfl) q, ⟨o, k _ _ (.inl rfl) e⟩, st⟩
theorem HOk.lt (x : HOk P w H h) (e : H a = some o) : a < h.objs.size := (x a o e).lt
theorem HOk.fresh (x : HOk P w H h) (e : h.objs.size ≤ a) : H a = none := by
  cases q : H a with
  | none => rfl
  | some u => exact absurd (Nat.lt_of_lt_of_le (x.lt q) e) (Nat.lt_irrefl _)
theorem HOk.kept (x : HOk P w H h) (k : ∀ b u, h.get? b = some u → h'.get? b = some u) : HOk P w H h' := fun a o e =>
  (x a o e).stay (fun b u _ q => k b u q) (fun _ q => q) fun _ _ q => q
theorem HOk.laid (x : HOk P w H h) (k : ∀ b u, h.get? b = some u → h'.get? b = some u) (hp : h.objs.size ≤ a) (new : ObjOk P w (upd H a o) h' a o) : HOk P w (upd H a o) h' := fun b u e => by
  have hn := x.fresh hp
  by_cases hb : b = a
  · subst hb; rw [upd_same] at e; cases e; exact new
  · rw [upd_ne hb] at e
    exact (x b u e).stay (fun c v _ q => k c v q) (fun c q => by rw [upd_ne (ne_of_none q hn)]; exact q) fun c xs q => by rw [upd_ne (ne_of_none q hn)]; exact q
end
def Rd (H : Hp) (a : Addr) (u : HO) : Prop := H a = some u ∨ ∃ o, H a = some (.frz o u)
theorem Rd.ok {P : Program} {w : World} {H : Hp} {h : Heap} {a : Addr} {u : HO} (r : Rd H a u) (x : HOk P w H h) : ObjOk P w H h a u := by
  rcases r with r | ⟨o, r⟩
  · exact x a u r
  · obtain ⟨_, q⟩ := x a _ r
    exact q
def Mut : Option HO → Prop
  | some (.lst _) => True
  | some (.dK _) => True
  | some (.dT _) => True
  | some (.set _ _) => True
  | some (.ins _ _ _) => True
  | some (.ext _) => True
  | _ => False
section
variable {P : Program} {w : World} {H : Hp} {h h' : Heap} {x e : Addr} {o' : HO}
theorem HOk.write (ok : HOk P w H h) (mu : Mut (H x)) (he : e = x ∨ H e = some (.own x)) (k : ∀ b u, b ≠ e → h.get? b = some u → h'.get? b = some u) (heo : ∃ u, h'.get? e = some u)
    (new : ObjOk P w (upd H x o') h' x o') : HOk P w (upd H x o') h' := fun b u q => by
  have nown : ∀ c y, H c = some (.own y) → c ≠ x := fun c y r z => by subst z; rw [r] at mu; exact mu
  have ntup : ∀ c xs, H c = some (.tup xs) → c ≠ x := fun c xs r z => by subst z; rw [r] at mu; exact mu
  by_cases hb : b = x
  · subst hb; rw [upd_same] at q; cases q; exact new
  · rw [upd_ne hb] at q
    by_cases hbe : b = e
    · have q' : H b = some (.own x) := by
        rcases he with z | z
        · exact absurd (hbe.trans z) hb
        · rw [hbe]; exact z
      rw [q] at q'; cases q'
      obtain ⟨v, hv⟩ := heo
      exact ⟨v, by rw [hbe]; exact hv⟩
    · refine (ok b u q).stay (fun c v hc r => k c v ?_ r) (fun c r => by rw [upd_ne (nown c b r)]; exact r) fun c xs r => by rw [upd_ne (ntup c xs r)]; exact r
      rcases hc with rfl | hc
      · exact hbe
      · rintro rfl
        rcases he with z | z
        · exact nown c b hc z
        · rw [hc] at z; cases z; exact hb rfl
end
structure Un (fs ex : List Addr) (H H' : Hp) (h h' : Heap) : Prop where
  keep : ∀ b o, h.get? b = some o → H b = none → b ∉ fs → b ∉ ex → h'.get? b = some o
  slot : ∀ b o, h.get? b = some o → H b = none → b ∈ fs → b ∉ ex → ∃ sl, h'.get? b = some { o with slots := sl }
  free : ∀ b o, h.get? b = some o → H b = none → b ∉ ex → H' b = none
  there : ∀ b o, h.get? b = some o → b ∉ ex → ∃ o', h'.get? b = some o'
  tups : ∀ b xs, H b = some (.tup xs) → H' b = some (.tup xs)
  frzs : ∀ b o u, H b = some (.frz o u) → H' b = some (.frz o u)
  tbls : ∀ b ps, H b = some (.tbl ps) → ∃ more, H' b = some (.tbl (ps ++ more))
section
variable {fs fs' ex ex' : List Addr} {H H1 H2 : Hp} {h h1 h2 h' : Heap} {a x e : Addr} {o : HO}
theorem Un.any (u : Un fs ex H H1 h h1) {b : Addr} {ob : Obj} (q : h.get? b = some ob) (n : H b = none) (hx : b ∉ ex) : ∃ sl, h1.get? b = some { ob with slots := sl } := by
  by_cases hb : b ∈ fs
  · exact u.slot b ob q n hb hx
  · exact ⟨ob.slots, u.keep b ob q n hb hx⟩
theorem Un.kept (k : ∀ b u, h.get? b = some u → h'.get? b = some u) : Un fs ex H H h h' :=
  ⟨fun b ob q _ _ _ => k b ob q, fun b ob q _ _ _ => ⟨ob.slots, k b ob q⟩, fun _ _ _ n _ => n, fun b ob q _ => ⟨ob, k b ob q⟩, fun _ _ q => q, fun _ _ _ q => q, fun _ ps q => ⟨#[], by rw [q]; simp⟩⟩
theorem Un.refl : Un fs ex H H h h := Un.kept fun _ _ q => q
theorem Un.laid (k : ∀ b u, h.get? b = some u → h'.get? b = some u) (hp : h.objs.size ≤ a) (hn : H a = none) : Un fs ex H (upd H a o) h h' where
  keep := fun b u q _ _ _ => k b u q
  slot := fun b u q _ _ _ => ⟨u.slots, k b u q⟩
  free := fun b u q n _ => by rw [upd_ne (Nat.ne_of_lt (Nat.lt_of_lt_of_le (Heap.lt_size q) hp))]; exact n
  there := fun b u q _ => ⟨u, k b u q⟩
  tups := fun b xs q => by rw [upd_ne (ne_of_none q hn)]; exact q
  frzs := fun b u xs q => by rw [upd_ne (ne_of_none q hn)]; exact q
  tbls := fun b ps q => ⟨#[], by rw [upd_ne (ne_of_none q hn), q]; simp⟩
theorem Un.write (mu : Mut (H x)) (he : e = x ∨ H e = some (.own x)) (k : ∀ b u, b ≠ e → h.get? b = some u → h'.get? b = some u) (heo : ∃ u, h'.get? e = some u) : Un fs ex H (upd H x o) h h' := by
  have hx : ∀ b, H b = none → b ≠ x := fun b n z => by subst z; rw [n] at mu; exact mu
  have hb : ∀ b, H b = none → b ≠ e := fun b n z => by
    subst z
    rcases he with r | r
    · exact hx b n r
    · rw [n] at r; cases r
  have hm : ∀ b u, H b = some u → ¬ Mut (some u) → b ≠ x := fun b u q nm z => by subst z; rw [q] at mu; exact nm mu
  refine ⟨fun b u q n _ _ => k b u (hb b n) q, fun b u q n _ _ => ⟨u.slots, k b u (hb b n) q⟩, fun b u q n _ => by rw [upd_ne (hx b n)]; exact n, fun b u q _ => ?_,
    fun b xs q => by rw [upd_ne (hm b _ q fun z => z)]; exact q, fun b u xs q => by rw [upd_ne (hm b _ q fun z => z)]; exact q, fun b ps q => ⟨#[], by rw [upd_ne (hm b _ q fun z => z), q]; simp⟩⟩
  by_cases hbe : b = e
  · subst hbe; exact heo
  · exact ⟨u, k b u hbe q⟩
end
def trk (h : Heap) (H : Hp) : List Addr := (List.range h.objs.size).filter fun a => (H a).isSome
def hidT (h : Heap) (H : Hp) : Heap := PySem.W.hideAll h (trk h H)
theorem hidT_size (h : Heap) (H : Hp) : (hidT h H).objs.size = h.objs.size := PySem.W.hideAll_size _ _
theorem hidT_get {h : Heap} {H : Hp} {b : Addr} {o : Obj} (e : h.get? b = some o) (n : H b = none) : (hidT h H).get? b = some o :=
  PySem.W.hideAll_get _ e fun hm => by
    have q : (H b).isSome = true := (List.mem_filter.mp hm).2
    rw [n] at q; simp at q
theorem of_hidT {h : Heap} {H : Hp} {b : Addr} {o : Obj} (e : (hidT h H).get? b = some o) : h.get? b = some o ∧ H b = none := by
  have e' : h.get? b = some o := PySem.W.of_hideAll (trk h H) e
  refine ⟨e', ?_⟩
  cases q : H b with
  | none => rfl
  | some x =>
    have hm : b ∈ trk h H := List.mem_filter.mpr ⟨List.mem_range.mpr (Heap.lt_size e'), by simp [q]⟩
    have z : (hidT h H).get? b = none := PySem.W.hideAll_none (trk h H) hm
    rw [z] at e; cases e
end L2
namespace L2
open PySem PySem.Spec PyProof.Rows
structure Mod (K : PySem.W.Frag) (mg : Str → Option Value) (base : Heap) : Prop where
  kin : K.In base
  glob : base.Ns mainGlobals mg
  blt : ∃ mb, base.Ns builtinsNs mb ∧ ∀ x : Str, x ≠ "__name__" → mb x = bootBuiltins x
  nolimit : base.NoLimit
structure Cx where
  prog : Program
  w : World
  K : PySem.W.Frag
  mg : Str → Option Value
  base : Heap
  A : Around
  N : List Str
  s_0 : Shared
  H_0 : Hp
  env : Env
  outer : List Env
  stack : List Env
  ex : List Addr
  fn : Str → Bool
  calm : Bool
  pn : List (Addr × Obj)
  xe : Value → Shared → Prop
def frs (l : List Env) : List Addr := l.filterMap (·.frame)
abbrev Cx.fs (X : Cx) : List Addr := frs X.outer
def Vis (sc : Scope) (x : Str) : Prop := sc.names.lookup x = some .local ∨ sc.names.lookup x = some .cell ∨ sc.names.lookup x = some .free
def Loc (sc : Scope) (x : Str) : Prop := sc.names.lookup x = some .local ∨ sc.names.lookup x = some .cell
def Look (env : Env) (h : Heap) (m : Str → Option Value) (x : Str) (u : Value) : Prop :=
  (env.kindOf x = some .local ∧ m x = some u) ∨ ((env.kindOf x = some .cell ∨ env.kindOf x = some .free) ∧ ∃ c, env.cells.lookup x = some c ∧ h.IsCell c (some u))
structure Cx.Ok (X : Cx) : Prop where
  mod : Mod X.K X.mg X.base
  kind : X.env.scope.kind = .function
  glob : X.env.globals = mainGlobals
  blt : X.env.builtins = builtinsNs
  above : X.s_0.heap.objs.size ≤ X.env.locals
  inj : ∀ x y c, X.env.cells.lookup x = some c → X.env.cells.lookup y = some c → x = y
  has : ∀ x, (X.env.kindOf x = some .cell ∨ X.env.kindOf x = some .free) → ∃ c, X.env.cells.lookup x = some c
  cab : ∀ x c, X.fn x = true → X.env.cells.lookup x = some c → X.s_0.heap.objs.size ≤ c
  hd : X.calm = true → X.A.handled = none
  frames : X.A.frames = some X.stack
  stk : X.stack = X.outer ∨ (X.stack = X.env :: X.outer ∧ X.env.frame = some X.env.locals)
  exf : ∀ b ∈ X.ex, b ≠ X.env.locals ∧ ∀ x c, X.env.cells.lookup x = some c → c ≠ b
  bs : ∀ b o, X.base.get? b = some o → X.s_0.heap.get? b = some o ∧ X.H_0 b = none
  bsz : X.base.objs.size ≤ X.s_0.heap.objs.size
  noex : ∀ b o, X.base.get? b = some o → b ∉ X.ex
  exfs : ∀ b ∈ X.ex, b ∉ X.fs
  funs : X.s_0.heap.FunFrames X.base X.outer
  frf : ∀ b ∈ X.fs, X.H_0 b = none
structure Inv (X : Cx) (pins : List (Addr × Obj)) (σ : List (Option V)) (H : Hp) (s : Shared) : Prop where
  ok : X.Ok
  os : s.os = X.s_0.os
  bare : AllBare s.gens
  base : Un X.fs X.ex X.H_0 H X.s_0.heap s.heap
  loc : ∃ m, s.heap.Ns X.env.locals m ∧ ∀ (i : Nat) (x : Str) (v : V), X.N[i]? = some x → σ[i]? = some (some v) → Vis X.env.scope x → ∃ u, RelV v u ∧ Look X.env s.heap m x u
  cell : ∀ x c, X.env.cells.lookup x = some c → ∃ v, s.heap.IsCell c v
  free : H X.env.locals = none
  freeC : ∀ x c, X.env.cells.lookup x = some c → H c = none
  pin : ∀ p ∈ X.pn ++ pins, s.heap.get? p.1 = some p.2 ∧ H p.1 = none ∧ p.1 ≠ X.env.locals ∧ p.1 ∉ X.fs ∧ ∀ v, p.2.data ≠ .cell v
  hok : HOk X.prog X.w H s.heap
  len : σ.length = X.N.length
section
variable {X : Cx} {pins : List (Addr × Obj)} {σ : List (Option V)} {H H' : Hp} {s : Shared} {h' : Heap}
theorem Cx.Ok.nofr (ok : X.Ok) {b : Addr} {o : Obj} (e : X.base.get? b = some o) : b ∉ X.fs := fun hb => by
  have := (ok.funs.mem hb).1
  rw [e] at this; cases this
theorem Inv.bs (I : Inv X pins σ H s) : ∀ b o, X.base.get? b = some o → s.heap.get? b = some o ∧ H b = none := fun b o e =>
  ⟨I.base.keep b o (I.ok.bs b o e).1 (I.ok.bs b o e).2 (I.ok.nofr e) (I.ok.noex b o e), I.base.free b o (I.ok.bs b o e).1 (I.ok.bs b o e).2 (I.ok.noex b o e)⟩
theorem Inv.bk (I : Inv X pins σ H s) : ∀ b o, X.base.get? b = some o → s.heap.get? b = some o := fun b o e => (I.bs b o e).1
theorem Inv.mod (I : Inv X pins σ H s) : Mod X.K X.mg X.base := I.ok.mod
theorem Inv.kIn (I : Inv X pins σ H s) : X.K.In s.heap := I.ok.mod.kin.keeps I.bk
theorem Inv.lt (I : Inv X pins σ H s) : X.env.locals < s.heap.objs.size := let ⟨_, hn, _⟩ := I.loc; hn.lt
theorem Inv.sz (I : Inv X pins σ H s) : X.s_0.heap.objs.size ≤ s.heap.objs.size := Nat.le_trans I.ok.above (Nat.le_of_lt I.lt)
theorem Inv.nofs (I : Inv X pins σ H s) {a : Addr} (h : s.heap.objs.size ≤ a) : a ∉ X.fs := fun hb => by
  obtain ⟨_, o, ho, _⟩ := I.ok.funs.mem hb
  exact absurd (Nat.lt_of_lt_of_le (Heap.lt_size ho) (Nat.le_trans I.sz h)) (Nat.lt_irrefl _)
theorem Inv.cne (I : Inv X pins σ H s) : ∀ x c, X.env.cells.lookup x = some c → c ≠ X.env.locals := fun x c e z => by
  obtain ⟨v, o, ho, hd⟩ := I.cell x c e
  obtain ⟨m, ⟨o', es, ep, ho', hd', _⟩, _⟩ := I.loc
  rw [z, ho'] at ho; cases ho; rw [hd'] at hd; cases hd
theorem Inv.funs (I : Inv X pins σ H s) : s.heap.FunFrames X.base X.outer := by
  have all : ∀ (l : List Env), (∀ b ∈ frs l, b ∈ X.fs) → X.s_0.heap.FunFrames X.base l → s.heap.FunFrames X.base l := by
    intro l
    induction l with
    | nil => intro _ _; trivial
    | cons env r ih =>
      intro hs hl
      obtain ⟨hk, ⟨L, o, hf, hn, ho, hd⟩, hr⟩ := hl
      have hL : L ∈ X.fs := hs L (by unfold frs; rw [List.filterMap_cons, hf]; exact List.mem_cons_self)
      obtain ⟨sl, e⟩ := I.base.slot L o ho (I.ok.frf L hL) hL fun z => I.ok.exfs L z hL
      exact ⟨hk, ⟨L, _, hf, hn, e, hd⟩, ih (fun b hb => hs b (by unfold frs; rw [List.filterMap_cons, hf]; exact List.mem_cons_of_mem _ hb)) hr⟩
  exact all X.outer (fun _ hb => hb) I.ok.funs
theorem Inv.stack (I : Inv X pins σ H s) : s.heap.FunFrames X.base X.stack := by
  rcases I.ok.stk with e | ⟨e, hf⟩
  · rw [e]; exact I.funs
  · rw [e]
    obtain ⟨m, hn, _⟩ := I.loc
    refine .cons (by rw [I.ok.kind]; decide) hf hn ?_ I.funs
    exact Heap.get?_none_of_le (Nat.le_trans I.ok.bsz I.ok.above)
theorem Inv.stkSub (I : Inv X pins σ H s) : ∀ b ∈ frs X.stack, b ∈ X.env.locals :: X.fs := fun b hb => by
  rcases I.ok.stk with e | ⟨e, hf⟩
  · rw [e] at hb; exact List.mem_cons_of_mem _ hb
  · rw [e] at hb
    unfold frs at hb
    rw [List.filterMap_cons, hf] at hb
    exact hb
theorem Inv.stkFree (I : Inv X pins σ H s) : ∀ b ∈ frs X.stack, H b = none := fun b hb => by
  rcases List.mem_cons.mp (I.stkSub b hb) with e | hb
  · rw [e]; exact I.free
  · obtain ⟨_, o, ho, _⟩ := I.ok.funs.mem hb
    exact I.base.free b o ho (I.ok.frf b hb) fun z => I.ok.exfs b z hb
theorem Inv.step {g' : Array GenState} {t' : Nat} {d' : Drawn} {ch : List Addr} (I : Inv X pins σ H s)
    (hch : ∀ b ∈ ch, (b ∈ X.ex ∨ X.s_0.heap.objs.size ≤ b) ∧ b ≠ X.env.locals ∧ (∀ x c, X.env.cells.lookup x = some c → c ≠ b) ∧ ∀ p ∈ X.pn ++ pins, p.1 ≠ b)
    (keep : ∀ b o, b ≠ X.env.locals → b ∉ X.fs → b ∉ ch → s.heap.get? b = some o → H b = none → h'.get? b = some o)
    (slot : ∀ b o, b ≠ X.env.locals → b ∈ X.fs → b ∉ ch → s.heap.get? b = some o → H b = none → ∃ sl, h'.get? b = some { o with slots := sl }) (free : ∀ b o, b ∉ ch → s.heap.get? b = some o → H b = none → H' b = none)
    (there : ∀ b o, b ∉ ch → s.heap.get? b = some o → ∃ o', h'.get? b = some o')
    (tups : ∀ b xs, H b = some (.tup xs) → H' b = some (.tup xs)) (frzs : ∀ b o u, H b = some (.frz o u) → H' b = some (.frz o u)) (tbls : ∀ b ps, H b = some (.tbl ps) → ∃ more, H' b = some (.tbl (ps ++ more)))
    (ns : ∀ m, s.heap.Ns X.env.locals m → h'.Ns X.env.locals m) (hok : HOk X.prog X.w H' h') (hg : AllBare g') :
    Inv X pins σ H' { s with heap := h', gens := g', drawn := d', toks := t' } := by
  have neL : ∀ b o, X.s_0.heap.get? b = some o → b ≠ X.env.locals := fun b o e => Nat.ne_of_lt (Nat.lt_of_lt_of_le (Heap.lt_size e) I.ok.above)
  have neC : ∀ b o, X.s_0.heap.get? b = some o → b ∉ X.ex → b ∉ ch := fun b o e hx hb => by
    rcases (hch b hb).1 with z | z
    · exact hx z
    · exact absurd (Nat.lt_of_lt_of_le (Heap.lt_size e) z) (Nat.lt_irrefl _)
  have cellK : ∀ x c, X.env.cells.lookup x = some c → ∀ v, s.heap.IsCell c v → h'.IsCell c v := fun x c e v ⟨o, ho, hd⟩ => by
    have nch : c ∉ ch := fun z => (hch c z).2.2.1 x c e rfl
    by_cases hc : c ∈ X.fs
    · obtain ⟨sl, q⟩ := slot c o (I.cne x c e) hc nch ho (I.freeC x c e)
      exact ⟨_, q, hd⟩
    · exact ⟨o, keep c o (I.cne x c e) hc nch ho (I.freeC x c e), hd⟩
  refine ⟨I.ok, I.os, hg, ⟨fun b o e n hb hx => ?_, fun b o e n hb hx => ?_, fun b o e n hx => ?_, fun b o e hx => ?_, fun b xs e => tups b xs (I.base.tups b xs e), fun b o xs e => frzs b o xs (I.base.frzs b o xs e), fun b ps e => ?_⟩, ?_, fun x c e => ?_, ?_, fun x c e => ?_, fun p hp => ?_, hok, I.len⟩
  · exact keep b o (neL b o e) hb (neC b o e hx) (I.base.keep b o e n hb hx) (I.base.free b o e n hx)
  · obtain ⟨sl, e1⟩ := I.base.slot b o e n hb hx
    obtain ⟨sl', e2⟩ := slot b _ (neL b o e) hb (neC b o e hx) e1 (I.base.free b o e n hx)
    exact ⟨sl', e2⟩
  · obtain ⟨o', e1⟩ := I.base.there b o e hx
    exact free b o' (neC b o e hx) e1 (I.base.free b o e n hx)
  · obtain ⟨o', e1⟩ := I.base.there b o e hx
    exact there b o' (neC b o e hx) e1
  · obtain ⟨m1, e1⟩ := I.base.tbls b ps e
    obtain ⟨m2, e2⟩ := tbls b _ e1
    exact ⟨m1 ++ m2, by rw [e2, Array.append_assoc]⟩
  · obtain ⟨m, hn, hl⟩ := I.loc
    refine ⟨m, ns m hn, fun i x v e1 e2 e3 => ?_⟩
    obtain ⟨u, r, l⟩ := hl i x v e1 e2 e3
    refine ⟨u, r, ?_⟩
    rcases l with l | ⟨k, c, e, z⟩
    · exact .inl l
    · exact .inr ⟨k, c, e, cellK x c e _ z⟩
  · obtain ⟨v, z⟩ := I.cell x c e
    exact ⟨v, cellK x c e v z⟩
  · obtain ⟨m, ⟨o, _, _, ho, _⟩, _⟩ := I.loc
    exact free _ o (fun z => (hch _ z).2.1 rfl) ho I.free
  · obtain ⟨v, o, ho, hd⟩ := I.cell x c e
    exact free c o (fun z => (hch c z).2.2.1 x c e rfl) ho (I.freeC x c e)
  · obtain ⟨e, n, ne, nf, d⟩ := I.pin p hp
    have nch : p.1 ∉ ch := fun z => (hch p.1 z).2.2.2 p hp rfl
    exact ⟨keep p.1 p.2 ne nf nch e n, free p.1 p.2 nch e n, ne, nf, d⟩
theorem Inv.un {t' : Nat} (I : Inv X pins σ H s) (u : Un X.fs [] H H' s.heap h') (hok : HOk X.prog X.w H' h') : Inv X pins σ H' { s with heap := h', toks := t' } := by
  obtain ⟨m, ⟨o, es, ep, ho, r⟩, _⟩ := id I.loc
  obtain ⟨sl, hL⟩ := u.any ho I.free (by simp)
  exact I.step (g' := s.gens) (d' := s.drawn) (ch := []) (fun _ z => nomatch z) (fun b o _ hb _ e n => u.keep b o e n hb (by simp)) (fun b o _ hb _ e n => u.slot b o e n hb (by simp)) (fun b o _ e n => u.free b o e n (by simp)) (fun b o _ e => u.there b o e (by simp)) u.tups u.frzs u.tbls (fun m' hm => by
    obtain ⟨o', es', ep', ho', r'⟩ := hm
    rw [ho] at ho'; cases ho'
    exact ⟨_, es', ep', hL, r'⟩) hok I.bare
theorem Inv.call {g' : Array GenState} {t' : Nat} {d' : Drawn} {ch : List Addr} (I : Inv X pins σ H s) (u : Un (frs X.stack) ch H H' s.heap h') (hok : HOk X.prog X.w H' h') (hg : AllBare g')
    (hch : ∀ b ∈ ch, (b ∈ X.ex ∨ X.s_0.heap.objs.size ≤ b) ∧ b ≠ X.env.locals ∧ (∀ x c, X.env.cells.lookup x = some c → c ≠ b) ∧ ∀ p ∈ X.pn ++ pins, p.1 ≠ b) :
    Inv X pins σ H' { s with heap := h', gens := g', drawn := d', toks := t' } := by
  obtain ⟨m, ⟨o, es, ep, ho, r⟩, _⟩ := id I.loc
  obtain ⟨sl, hL⟩ := u.any ho I.free fun z => (hch _ z).2.1 rfl
  exact I.step (ch := ch) hch (fun b o hL hb hc e n => u.keep b o e n (fun z => (List.mem_cons.mp (I.stkSub b z)).elim hL hb) hc) (fun b o _ _ hc e n => u.any e n hc) (fun b o hc e n => u.free b o e n hc) (fun b o hc e => u.there b o e hc) u.tups u.frzs u.tbls (fun m' hm => by
    obtain ⟨o', es', ep', ho', r'⟩ := hm
    rw [ho] at ho'; cases ho'
    exact ⟨_, es', ep', hL, r'⟩) hok hg
theorem Inv.turned {t' : Nat} {it : Addr} (I : Inv X pins σ H s) (k : ∀ b o, b ≠ it → s.heap.get? b = some o → h'.get? b = some o) (hn : H it = none) (hL : it ≠ X.env.locals)
    (h1 : it ∈ X.ex ∨ X.s_0.heap.objs.size ≤ it) (h2 : ∀ x c, X.env.cells.lookup x = some c → c ≠ it) (h3 : ∀ p ∈ X.pn ++ pins, p.1 ≠ it) : Inv X pins σ H { s with heap := h', toks := t' } := by
  have nit : ∀ b u, H b = some u → b ≠ it := fun b u e z => by rw [z, hn] at e; cases e
  refine I.step (g' := s.gens) (d' := s.drawn) (ch := [it]) (fun b hb => ?_) (fun b o _ _ hc e _ => k b o (fun z => hc (by simp [z])) e) (fun b o _ _ hc e _ => ⟨o.slots, k b o (fun z => hc (by simp [z])) e⟩) (fun _ _ _ _ n => n)
    (fun b o hc e => ⟨o, k b o (fun z => hc (by simp [z])) e⟩) (fun _ _ e => e) (fun _ _ _ e => e) (fun b ps e => ⟨#[], by rw [e]; simp⟩) (fun m hm => ?_) (fun b u e => ?_) I.bare
  · have e : b = it := by simpa using hb
    subst e
    exact ⟨h1, hL, h2, h3⟩
  · obtain ⟨o, es, ep, ho, r⟩ := hm
    exact ⟨o, es, ep, k _ o (Ne.symm hL) ho, r⟩
  · refine (I.hok b u e).stay (fun c v hc q => k c v ?_ q) (fun _ q => q) fun _ _ q => q
    rcases hc with z | z
    · rw [z]; exact nit b u e
    · exact nit c _ z
theorem Inv.tok (I : Inv X pins σ H s) (t : Nat) : Inv X pins σ H { s with toks := t } := I.un (h' := s.heap) (t' := t) Un.refl I.hok
theorem Inv.kept {t' : Nat} (I : Inv X pins σ H s) (k : ∀ b u, s.heap.get? b = some u → h'.get? b = some u) : Inv X pins σ H { s with heap := h', toks := t' } := I.un (Un.kept k) (I.hok.kept k)
theorem Inv.laid {a : Addr} {o : HO} {t' : Nat} (I : Inv X pins σ H s) (k : ∀ b u, s.heap.get? b = some u → h'.get? b = some u) (hp : s.heap.objs.size ≤ a) (new : ObjOk X.prog X.w (upd H a o) h' a o) :
    Inv X pins σ (upd H a o) { s with heap := h', toks := t' } := I.un (Un.laid k hp (I.hok.fresh hp)) (I.hok.laid k hp new)
theorem Inv.write {x e : Addr} {o : HO} {t' : Nat} (I : Inv X pins σ H s) (mu : Mut (H x)) (he : e = x ∨ H e = some (.own x)) (k : ∀ b u, b ≠ e → s.heap.get? b = some u → h'.get? b = some u) (heo : ∃ u, h'.get? e = some u)
    (new : ObjOk X.prog X.w (upd H x o) h' x o) : Inv X pins σ (upd H x o) { s with heap := h', toks := t' } := I.un (Un.write mu he k heo) (I.hok.write mu he k heo new)
theorem Inv.weak {σ' : List (Option V)} (I : Inv X pins σ H s) (hl : σ'.length = σ.length) (w : ∀ (i : Nat) v, σ'[i]? = some (some v) → σ[i]? = some (some v)) : Inv X pins σ' H s :=
  ⟨I.ok, I.os, I.bare, I.base, let ⟨m, hn, hl'⟩ := I.loc; ⟨m, hn, fun i x v e1 e2 e3 => hl' i x v e1 (w i v e2) e3⟩, I.cell, I.free, I.freeC, I.pin, I.hok, hl.trans I.len⟩
theorem Inv.pins_of {pins' : List (Addr × Obj)} (I : Inv X pins σ H s) (h : ∀ p ∈ pins', s.heap.get? p.1 = some p.2 ∧ H p.1 = none ∧ p.1 ≠ X.env.locals ∧ p.1 ∉ X.fs ∧ ∀ v, p.2.data ≠ .cell v) : Inv X pins' σ H s :=
  ⟨I.ok, I.os, I.bare, I.base, I.loc, I.cell, I.free, I.freeC, fun p hp => (List.mem_append.mp hp).elim (fun z => I.pin p (List.mem_append_left _ z)) (h p), I.hok, I.len⟩
theorem nodup_ix {N : List Str} (hN : N.Nodup) {i j : Nat} {x : Str} (a : N[i]? = some x) (b : N[j]? = some x) : i = j := by
  obtain ⟨h1, e1⟩ := List.getElem?_eq_some_iff.mp a
  obtain ⟨h2, e2⟩ := List.getElem?_eq_some_iff.mp b
  exact (List.getElem_inj hN).mp (e1.trans e2.symm)
theorem store_ok2 {M : Model} {A : Around} {E : Value → Shared → Prop} {i : Nat} {x : Str} {v : V} {u : Value} {Q : Unit → Shared → Prop} (I : Inv X pins σ H s) (hN : X.N.Nodup) (hi : X.N[i]? = some x) (hx : Loc X.env.scope x) (r : RelV v u)
    (h : ∀ s', Inv X pins (σ.set i (some v)) H s' → (∃ a, Heap.SameBut a s.heap s'.heap ∧ (a = X.env.locals ∨ X.env.cells.lookup x = some a)) → Q () s') (hf : X.fn x = true ∨ X.env.scope.names.lookup x = some .local := by first | exact .inl rfl | exact .inr rfl | assumption) : wpAny M A (storeName X.env x u) Q E s := by
  obtain ⟨m, hn, hl⟩ := id I.loc
  have hcls : (X.env.scope.kind == .class || (X.env.scope.kind == .module && X.env.locals != X.env.globals)) = false := by rw [I.ok.kind]; rfl
  have hiσ : i < σ.length := by rw [I.len]; exact (List.getElem?_eq_some_iff.mp hi).1
  have cne := I.cne
  have tracked : ∀ {a : Addr} {h' : Heap}, (∃ o, s.heap.get? a = some o ∧ H a = none) → Heap.SameBut a s.heap h' → HOk X.prog X.w H h' := fun {a h'} ha hs b ob e => by
    obtain ⟨_, _, hfree⟩ := ha
    refine (I.hok b ob e).stay (fun c w' hc q => (hs.2 c ?_).trans q) (fun _ q => q) fun _ _ q => q
    rintro rfl
    rcases hc with rfl | hc
    · rw [hfree] at e; cases e
    · rw [hfree] at hc; cases hc
  rcases hx with hk | hk
  · refine wpAny_storeName_local hk hn (fun h' hn' hs => ?_) hcls
    obtain ⟨oL, _, _, hoL, _⟩ := id hn
    refine h _ ⟨I.ok, I.os, I.bare, ⟨fun b o e n hb hx => ?_, fun b o e n hb hx => ?_, I.base.free, fun b o e hx => ?_, I.base.tups, I.base.frzs, I.base.tbls⟩, ⟨_, hn', fun j y v' e1 e2 e3 => ?_⟩, fun y c e => ?_, I.free, I.freeC, fun p hp => ?_, tracked ⟨oL, hoL, I.free⟩ hs, by simpa using I.len⟩ ⟨_, hs, .inl rfl⟩
    · exact (hs.2 b (Nat.ne_of_lt (Nat.lt_of_lt_of_le (Heap.lt_size e) I.ok.above))).trans (I.base.keep b o e n hb hx)
    · obtain ⟨sl, e1⟩ := I.base.slot b o e n hb hx
      exact ⟨sl, (hs.2 b (Nat.ne_of_lt (Nat.lt_of_lt_of_le (Heap.lt_size e) I.ok.above))).trans e1⟩
    · obtain ⟨o', e1⟩ := I.base.there b o e hx
      exact ⟨o', (hs.2 b (Nat.ne_of_lt (Nat.lt_of_lt_of_le (Heap.lt_size e) I.ok.above))).trans e1⟩
    · by_cases hj : j = i
      · subst hj
        rw [hi] at e1; cases e1
        rw [List.getElem?_set_self hiσ] at e2
        cases e2
        exact ⟨u, r, .inl ⟨hk, by simp⟩⟩
      · rw [List.getElem?_set_ne (Ne.symm hj)] at e2
        obtain ⟨u', r', q⟩ := hl j y v' e1 e2 e3
        refine ⟨u', r', ?_⟩
        rcases q with ⟨k, e⟩ | ⟨k, c, e, z⟩
        · refine .inl ⟨k, ?_⟩
          have : y ≠ x := fun e => hj (nodup_ix hN e1 (e ▸ hi))
          simp [this, e]
        · exact .inr ⟨k, c, e, z.sameBut hs (cne y c e)⟩
    · obtain ⟨w', z⟩ := I.cell y c e
      exact ⟨w', z.sameBut hs (cne y c e)⟩
    · obtain ⟨e, n, ne, nf, d⟩ := I.pin p hp
      exact ⟨(hs.2 p.1 ne).trans e, n, ne, nf, d⟩
  · have hfn : X.fn x = true := by
      rcases hf with z | z
      · exact z
      · rw [z] at hk; cases hk
    obtain ⟨c, hc⟩ := I.ok.has x (.inl hk)
    obtain ⟨w', z⟩ := I.cell x c hc
    refine wpAny_storeName_cell I.ok.kind hk hc z (fun h' hc' hs => ?_)
    obtain ⟨oc, hoc, hocd⟩ := id z
    refine h { s with heap := h' } ⟨I.ok, I.os, I.bare, ⟨fun b o e n hb hx => ?_, fun b o e n hb hx => ?_, I.base.free, fun b o e hx => ?_, I.base.tups, I.base.frzs, I.base.tbls⟩, ⟨m, hn.sameBut hs (Ne.symm (cne x c hc)), fun j y v' e1 e2 e3 => ?_⟩, fun y c' e => ?_, I.free, I.freeC, fun p hp => ?_, tracked ⟨oc, hoc, I.freeC x c hc⟩ hs, by simpa using I.len⟩ ⟨c, hs, .inr hc⟩
    · exact (hs.2 b (Nat.ne_of_lt (Nat.lt_of_lt_of_le (Heap.lt_size e) (I.ok.cab x c hfn hc)))).trans (I.base.keep b o e n hb hx)
    · obtain ⟨sl, e1⟩ := I.base.slot b o e n hb hx
      exact ⟨sl, (hs.2 b (Nat.ne_of_lt (Nat.lt_of_lt_of_le (Heap.lt_size e) (I.ok.cab x c hfn hc)))).trans e1⟩
    · obtain ⟨o', e1⟩ := I.base.there b o e hx
      exact ⟨o', (hs.2 b (Nat.ne_of_lt (Nat.lt_of_lt_of_le (Heap.lt_size e) (I.ok.cab x c hfn hc)))).trans e1⟩
    · by_cases hj : j = i
      · subst hj
        rw [hi] at e1; cases e1
        rw [List.getElem?_set_self hiσ] at e2
        cases e2
        exact ⟨u, r, .inr ⟨.inl hk, c, hc, hc'⟩⟩
      · rw [List.getElem?_set_ne (Ne.symm hj)] at e2
        obtain ⟨u', r', q⟩ := hl j y v' e1 e2 e3
        refine ⟨u', r', ?_⟩
        rcases q with q | ⟨k, c', e, z'⟩
        · exact .inl q
        · refine .inr ⟨k, c', e, z'.sameBut hs ?_⟩
          rintro rfl
          exact hj (nodup_ix hN e1 (I.ok.inj _ _ _ e hc ▸ hi))
    · by_cases hcc : c' = c
      · subst hcc; exact ⟨_, hc'⟩
      · obtain ⟨w2, z2⟩ := I.cell y c' e
        exact ⟨w2, z2.sameBut hs hcc⟩
    · obtain ⟨e, n, ne, nf, d⟩ := I.pin p hp
      refine ⟨(hs.2 p.1 ?_).trans e, n, ne, nf, d⟩
      intro q
      rw [q, hoc] at e
      have q' : oc = p.2 := Option.some.inj e
      exact d w' (by rw [← q']; exact hocd)
theorem store_ok {M : Model} {A : Around} {E : Value → Shared → Prop} {i : Nat} {x : Str} {v : V} {u : Value} {Q : Unit → Shared → Prop} (I : Inv X pins σ H s) (hN : X.N.Nodup) (hi : X.N[i]? = some x) (hx : Loc X.env.scope x) (r : RelV v u)
    (h : ∀ s', Inv X pins (σ.set i (some v)) H s' → Q () s') (hf : X.fn x = true ∨ X.env.scope.names.lookup x = some .local := by first | exact .inl rfl | exact .inr rfl | assumption) : wpAny M A (storeName X.env x u) Q E s :=
  store_ok2 I hN hi hx r (fun s' I' _ => h s' I') hf
theorem Inv.call' {s' : Shared} {ch : List Addr} (I : Inv X pins σ H s) (ho : s'.os = s.os) (u : Un (frs X.stack) ch H H' s.heap s'.heap) (hok : HOk X.prog X.w H' s'.heap) (hg : AllBare s'.gens)
    (hch : ∀ b ∈ ch, (b ∈ X.ex ∨ X.s_0.heap.objs.size ≤ b) ∧ b ≠ X.env.locals ∧ (∀ x c, X.env.cells.lookup x = some c → c ≠ b) ∧ ∀ p ∈ X.pn ++ pins, p.1 ≠ b) : Inv X pins σ H' s' := by
  obtain ⟨h', g', d', t', o'⟩ := s'
  have e : o' = s.os := ho
  subst e
  exact I.call (g' := g') (t' := t') (d' := d') u hok hg hch
end
abbrev XK := Value → Option Addr → Hp → Prop
abbrev St := List (Option V)
abbrev VK := V → Hp → Prop
abbrev TE := St → Hp → VK → Prop
abbrev TT := St → Hp → (Bool → Hp → Prop) → Prop
abbrev TA := St → Hp → (List V → Hp → Prop) → Prop
structure Ends where
  nx : St → Hp → Prop
  rt : VK
  bk : St → Hp → Prop := fun _ _ => False
  ct : St → Hp → Prop := fun _ _ => False
abbrev TS := Ends → St → Hp → Prop
def EP (X : Cx) (pins : List (Addr × Obj)) (σ : St) (Q : VK) (u : Value) (s' : Shared) : Prop := ∃ v H', Inv X pins σ H' s' ∧ RelV v u ∧ Q v H'
def TP (X : Cx) (pins : List (Addr × Obj)) (σ : St) (Q : Bool → Hp → Prop) (b : Bool) (s' : Shared) : Prop := ∃ H', Inv X pins σ H' s' ∧ Q b H'
def AP (X : Cx) (pins : List (Addr × Obj)) (σ : St) (Q : List V → Hp → Prop) (us : List Value) (s' : Shared) : Prop := ∃ vs H', Inv X pins σ H' s' ∧ Vals vs us ∧ Q vs H'
def SP (X : Cx) (pins : List (Addr × Obj)) (D : Ends) (f : Flow) (s' : Shared) : Prop :=
  match f with
  | .next => ∃ σ' H', Inv X pins σ' H' s' ∧ D.nx σ' H'
  | .brk => ∃ σ' H', Inv X pins σ' H' s' ∧ D.bk σ' H'
  | .cont => ∃ σ' H', Inv X pins σ' H' s' ∧ D.ct σ' H'
  | .ret u => ∃ v σ' H', Inv X pins σ' H' s' ∧ RelV v u ∧ D.rt v H'
def PE (X : Cx) (e : Expr) (t : TE) : Prop :=
  ∀ (pins : List (Addr × Obj)) (s : Shared) (σ : St) (H : Hp) (Q : VK), Inv X pins σ H s → t σ H Q → wpAny (model X.prog X.w) X.A (eval e X.env) (EP X pins σ Q) X.xe s
def PT (X : Cx) (e : Expr) (t : TT) : Prop :=
  ∀ (pins : List (Addr × Obj)) (s : Shared) (σ : St) (H : Hp) (Q : Bool → Hp → Prop), Inv X pins σ H s → t σ H Q → wpAny (model X.prog X.w) X.A (isTrue e X.env (eval e X.env)) (TP X pins σ Q) X.xe s
def PW (X : Cx) (e : Expr) (t : TT) : Prop :=
  ∀ (whole : Sem Value) (pins : List (Addr × Obj)) (s : Shared) (σ : St) (H : Hp) (Q : Bool → Hp → Prop), Inv X pins σ H s → t σ H Q → wpAny (model X.prog X.w) X.A (isTrue e X.env whole) (TP X pins σ Q) X.xe s
theorem PW.pt {X : Cx} {e : Expr} {t : TT} (h : PW X e t) : PT X e t := h _
def PA (X : Cx) (es : List Expr) (t : TA) : Prop :=
  ∀ (pos : Pos) (pins : List (Addr × Obj)) (s : Shared) (σ : St) (H : Hp) (Q : List V → Hp → Prop), Inv X pins σ H s → t σ H Q → wpAny (model X.prog X.w) X.A (spliced (backTo pos (starEach es X.env))) (AP X pins σ Q) X.xe s
def PS (X : Cx) (st : Stmt) (t : TS) : Prop :=
  ∀ (pins : List (Addr × Obj)) (s : Shared) (σ : St) (H : Hp) (D : Ends), Inv X pins σ H s → t D σ H → wpAny (model X.prog X.w) X.A (exec st X.env) (SP X pins D) X.xe s
def PSs (X : Cx) (st : List Stmt) (t : TS) : Prop :=
  ∀ (pins : List (Addr × Obj)) (s : Shared) (σ : St) (H : Hp) (D : Ends), Inv X pins σ H s → t D σ H → wpAny (model X.prog X.w) X.A (execs st X.env) (SP X pins D) X.xe s
theorem thn {α : Type} {t : Sem α} {Q Q' : α → Shared → Prop} {M : Model} {A : Around} {E : Value → Shared → Prop} {s : Shared} (h : wpAny M A t Q E s) (hQ : ∀ a s, Q a s → Q' a s) : wpAny M A t Q' E s := wpAny_mono h hQ fun _ _ x => x
end L2
namespace L2
open PySem PySem.Spec PyProof.Rows
section
variable {X : Cx}
def tVar (i : Nat) : TE := fun σ H Q => ∃ v, σ[i]? = some (some v) ∧ Q v H
def tC (v : V) : TE := fun _ H Q => Q v H
theorem pe_var {i : Nat} {x : Str} {pos : Pos} (hN : X.N[i]? = some x) (hv : Vis X.env.scope x) (hd : (x == ("__debug__" : Str)) = false := by decide) (hcd : (x == ("__classdict__" : Str)) = false := by decide) : PE X (.Name x pos) (tVar i) := by
  intro pins s σ H Q I h
  obtain ⟨v, e, h⟩ := h
  obtain ⟨m, hn, hl⟩ := I.loc
  obtain ⟨u, r, l⟩ := hl i x v hN e hv
  have fin : EP X pins σ Q u s := ⟨v, H, I, r, h⟩
  rcases l with ⟨hk, hm⟩ | ⟨hk, c, hc, hcell⟩
  · exact wpAny_Name (wpAny_loadName_local I.ok.kind hk hn hm fin) hd
  · rcases hk with hk | hk
    · exact wpAny_Name (wpAny_loadName_cell I.ok.kind hk hc hcell fin) hd
    · exact wpAny_Name (wpAny_loadName_free I.ok.kind hk hc hcell fin hcd) hd
theorem pe_int {i j pos} : PE X (.Constant (.int i) j pos) (tC (.int i)) := fun _ _ _ H _ I h => wpAny_Constant_int ⟨.int i, H, I.tok _, ⟨_, rfl⟩, h⟩
theorem pe_bl {b j pos} : PE X (.Constant (.bool b) j pos) (tC (.bl b)) := fun _ _ _ H _ I h => Constant_bool ⟨.bl b, H, I, rfl, h⟩
theorem pe_non {j pos} : PE X (.Constant .none j pos) (tC .non) := fun _ _ _ H _ I h => Constant_none ⟨.non, H, I, rfl, h⟩
def Gl (X : Cx) (x : Str) : Prop := X.env.kindOf x = some .globalImplicit
theorem ld_glob {E : Value → Shared → Prop} {pins : List (Addr × Obj)} {s : Shared} {σ : St} {H : Hp} {x : Str} {u : Value} {pos : Pos} {Q : Value → Shared → Prop} (I : Inv X pins σ H s) (hg : Gl X x) (hm : X.mg x = some u) (h : Q u s)
    (hd : (x == ("__debug__" : Str)) = false := by decide) : wpAny (model X.prog X.w) X.A (eval (.Name x pos) X.env) Q E s :=
  Calls.Name_function_global I.ok.kind hg (Calls.loadGlobal_global (by rw [I.ok.glob]; exact I.mod.glob.keeps I.bk) hm h) hd
theorem ld_blt {E : Value → Shared → Prop} {pins : List (Addr × Obj)} {s : Shared} {σ : St} {H : Hp} {x : Str} {u : Value} {pos : Pos} {Q : Value → Shared → Prop} (I : Inv X pins σ H s) (hg : Gl X x) (hm : X.mg x = none) (hv : bootBuiltins x = some u) (h : Q u s)
    (hn : x ≠ "__name__" := by decide) (hd : (x == ("__debug__" : Str)) = false := by decide) : wpAny (model X.prog X.w) X.A (eval (.Name x pos) X.env) Q E s := by
  obtain ⟨mb, h1, h2⟩ := I.mod.blt
  exact Calls.Name_function_global I.ok.kind hg (Calls.loadGlobal_builtin (by rw [I.ok.glob]; exact I.mod.glob.keeps I.bk) hm (by rw [I.ok.blt]; exact h1.keeps I.bk) ((h2 x hn).trans hv) h) hd
theorem pe_glob {x : Str} {v : V} {u : Value} {pos : Pos} (hg : Gl X x) (hm : X.mg x = some u) (r : RelV v u) (hd : (x == ("__debug__" : Str)) = false := by decide) : PE X (.Name x pos) (tC v) :=
  fun _ _ _ H _ I h => ld_glob I hg hm ⟨v, H, I, r, h⟩ hd
variable {a b : Expr} {ta tb : TE} {pos : Pos}
variable {tA tB' : TT} {rest : List Expr}
def tOr (t u : TT) : TT := fun σ H Q => t σ H fun c H1 => if c = true then Q true H1 else u σ H1 Q
def tNot (t : TT) : TT := fun σ H Q => t σ H fun c H1 => Q (!c) H1
theorem pw_or1 (ha : PT X a tA) : PW X (.BoolOp .Or [a] pos) tA := by
  intro wh pins s σ H Q I h
  refine isTrue_or (thn (ha pins s σ H Q I h) fun c s1 e => ?_)
  cases c with
  | false => exact isTrue_or_nil e
  | true => exact e
theorem pw_or (ha : PT X a tA) (hb : PW X (.BoolOp .Or (b :: rest) pos) tB') : PW X (.BoolOp .Or (a :: b :: rest) pos) (tOr tA tB') := by
  intro wh pins s σ H Q I h
  refine isTrue_or (thn (ha pins s σ H _ I h) fun c s1 ⟨H1, I1, q1⟩ => ?_)
  cases c with
  | true => exact ⟨H1, I1, q1⟩
  | false => exact hb wh pins s1 σ H1 Q I1 q1
theorem pt_not (ha : PT X a tA) : PT X (.UnaryOp .Not a pos) (tNot tA) := by
  intro pins s σ H Q I h
  exact isTrue_not (ha pins s σ H (fun c H1 => Q (!c) H1) I h)
def tAndV (ta tb : TE) : TE := fun σ H Q => ta σ H fun x H1 => ∃ c, x = .bl c ∧ if c = true then tb σ H1 Q else Q (.bl false) H1
def tNotV (ta : TE) : TE := fun σ H Q => ta σ H fun x H1 => ∃ c, x = .bl c ∧ Q (.bl (!c)) H1
theorem pe_one {op} {t : TE} (h : PE X a t) : PE X (.BoolOp op [a] pos) t := fun pins s σ H Q I hw => BoolOp_one (h pins s σ H Q I hw)
theorem pe_and (ha : PE X a ta) (hb : PE X (.BoolOp .And (b :: rest) pos) tb) : PE X (.BoolOp .And (a :: b :: rest) pos) (tAndV ta tb) := by
  intro pins s σ H Q I h
  refine BoolOp_and (thn (ha pins s σ H _ I h) fun v s1 ⟨x, H1, I1, r1, q1⟩ => ?_)
  obtain ⟨c, rfl, q1⟩ := q1
  cases r1
  refine wpAny_truthy_bool ?_
  cases c with
  | true => exact hb pins s1 σ H1 Q I1 q1
  | false => exact ⟨.bl false, H1, I1, rfl, q1⟩
theorem pe_not (ha : PE X a ta) : PE X (.UnaryOp .Not a pos) (tNotV ta) := by
  intro pins s σ H Q I h
  refine UnaryOp_ (thn (ha pins s σ H _ I h) fun v s1 ⟨x, H1, I1, r1, q1⟩ => ?_)
  obtain ⟨c, rfl, q1⟩ := q1
  cases r1
  exact not_of (wpAny_truthy_bool ⟨.bl (!c), H1, I1, rfl, q1⟩)
def tIf (t : TT) (ta tb : TE) : TE := fun σ H Q => t σ H fun c H1 => if c = true then ta σ H1 Q else tb σ H1 Q
theorem pe_ifExp {c : Expr} (hc : PT X c tA) (ha : PE X a ta) (hb : PE X b tb) : PE X (.IfExp c a b pos) (tIf tA ta tb) := by
  intro pins s σ H Q I h
  refine wpAny_IfExp (thn (hc pins s σ H _ I h) fun d s1 ⟨H1, I1, q1⟩ => ?_)
  cases d with
  | true => exact ha pins s1 σ H1 Q I1 q1
  | false => exact hb pins s1 σ H1 Q I1 q1
end
end L2
namespace L2
open PySem PySem.Spec PyProof.Rows
def SqL (K : PySem.W.Frag) (H : Hp) (a : Addr) (xs : List V) : Prop :=
  Rd H a (.lst xs) ∨
    ∃ (o : Obj) (its : Array Value) (n : Nat), K.lookup a = some o ∧ o.cls = .type "list" ∧ o.dict = none ∧ o.data = .seq its n ∧ its.size ≤ sizeLine ∧ Vals xs its.toList
def SqT (K : PySem.W.Frag) (H : Hp) (a : Addr) (xs : List V) : Prop :=
  Rd H a (.tup xs) ∨
    ∃ (o : Obj) (its : Array Value) (n : Nat), K.lookup a = some o ∧ o.cls = .type "tuple" ∧ o.data = .seq its n ∧ its.size ≤ sizeLine ∧ Vals xs its.toList
def absV : Value → Option V
  | .none => some .non
  | .bool b => some (.bl b)
  | .int i _ => some (.int i)
  | .str x _ => some (.str x)
  | .bytes b _ => some (.byt b)
  | .float b _ => some (.flt b)
  | .ref a => some (.ref a)
  | .type n => some (.ty n)
  | _ => none
theorem RelV.abs {x : V} {u : Value} (r : RelV x u) : absV u = some x := by
  cases x with
  | non => cases r; rfl
  | bl _ => cases r; rfl
  | int _ => obtain ⟨t, rfl⟩ := r; rfl
  | str _ => obtain ⟨t, rfl⟩ := r; rfl
  | byt _ => obtain ⟨t, rfl⟩ := r; rfl
  | flt _ => obtain ⟨t, rfl⟩ := r; rfl
  | ref _ => cases r; rfl
  | ty _ => cases r; rfl
theorem RelV.inj {x y : V} {u : Value} (r : RelV x u) (q : RelV y u) : x = y := Option.some.inj (r.abs.symm.trans q.abs)
theorem Vals.inj : ∀ {xs ys : List V} {us : List Value}, Vals xs us → Vals ys us → xs = ys
  | _, _, _, .nil, .nil => rfl
  | _, _, _, .cons r t, .cons r' t' => by rw [r.inj r', Vals.inj t t']
section
variable {X : Cx} {pins : List (Addr × Obj)} {σ : St} {H : Hp} {s : Shared} {a : Addr} {xs ys : List V}
theorem SqL.of {K : PySem.W.Frag} (h : H a = some (.lst xs)) : SqL K H a xs := .inl (.inl h)
theorem SqT.of {K : PySem.W.Frag} (h : H a = some (.tup xs)) : SqT K H a xs := .inl (.inl h)
theorem Inv.list (I : Inv X pins σ H s) (h : SqL X.K H a xs) : ∃ its : List Value, Vals xs its ∧ PlainL s.heap a its.toArray ∧ xs.length ≤ sizeLine := by
  rcases h with h | ⟨o, its, n, hk, hc, hd, hs, hz, r⟩
  · obtain ⟨z, its, n, r, e⟩ := h.ok I.hok
    exact ⟨its, r, ⟨_, n, e, rfl, rfl, rfl⟩, z⟩
  · refine ⟨its.toList, r, ⟨o, n, I.kIn a o hk, hc, hd, by simpa using hs⟩, ?_⟩
    have e := r.length
    simp only [Array.length_toList] at e
    omega
theorem Inv.tuple (I : Inv X pins σ H s) (h : SqT X.K H a xs) : ∃ its : List Value, Vals xs its ∧ IsTup s.heap a its.toArray ∧ xs.length ≤ sizeLine := by
  rcases h with h | ⟨o, its, n, hk, hc, hs, hz, r⟩
  · obtain ⟨z, its, r, p⟩ := h.ok I.hok
    exact ⟨its, r, p, z⟩
  · refine ⟨its.toList, r, ⟨o, I.kIn a o hk, hc, n, by simpa using hs⟩, ?_⟩
    have e := r.length
    simp only [Array.length_toList] at e
    omega
theorem Inv.list_inj (I : Inv X pins σ H s) (h : SqL X.K H a xs) (h' : SqL X.K H a ys) : xs = ys := by
  obtain ⟨its, r, ⟨o, n, e, _, _, d⟩, _⟩ := I.list h
  obtain ⟨its', r', ⟨o', n', e', _, _, d'⟩, _⟩ := I.list h'
  rw [e] at e'; cases e'
  rw [d] at d'
  injection d' with d1 _
  have : its = its' := by simpa using congrArg Array.toList d1
  subst this
  exact r.inj r'
end
abbrev Cx.wish (X : Cx) (E : Value → Shared → Prop) : Cx := { X with xe := E }
abbrev Cx.nox (X : Cx) : Cx := X.wish fun _ _ => False
theorem Cx.Ok.wish {X : Cx} (ok : X.Ok) (E : Value → Shared → Prop) : (X.wish E).Ok :=
  ⟨ok.mod, ok.kind, ok.glob, ok.blt, ok.above, ok.inj, ok.has, ok.cab, ok.hd, ok.frames, ok.stk, ok.exf, ok.bs, ok.bsz, ok.noex, ok.exfs, ok.funs, ok.frf⟩
theorem Cx.Ok.unwish {X : Cx} {E : Value → Shared → Prop} (ok : (X.wish E).Ok) : X.Ok :=
  ⟨ok.mod, ok.kind, ok.glob, ok.blt, ok.above, ok.inj, ok.has, ok.cab, ok.hd, ok.frames, ok.stk, ok.exf, ok.bs, ok.bsz, ok.noex, ok.exfs, ok.funs, ok.frf⟩
section
variable {X : Cx} {pins : List (Addr × Obj)} {σ : St} {H : Hp} {s : Shared} {E : Value → Shared → Prop}
theorem Inv.wish (I : Inv X pins σ H s) (E : Value → Shared → Prop) : Inv (X.wish E) pins σ H s := ⟨I.ok.wish E, I.os, I.bare, I.base, I.loc, I.cell, I.free, I.freeC, I.pin, I.hok, I.len⟩
theorem Inv.unwish (I : Inv (X.wish E) pins σ H s) : Inv X pins σ H s := ⟨I.ok.unwish, I.os, I.bare, I.base, I.loc, I.cell, I.free, I.freeC, I.pin, I.hok, I.len⟩
theorem SP.unwish {D : Ends} {f : Flow} {s' : Shared} (h : SP (X.wish E) pins D f s') : SP X pins D f s' := by
  cases f with
  | next => obtain ⟨σ', H', I, q⟩ := h; exact ⟨σ', H', I.unwish, q⟩
  | brk => obtain ⟨σ', H', I, q⟩ := h; exact ⟨σ', H', I.unwish, q⟩
  | cont => obtain ⟨σ', H', I, q⟩ := h; exact ⟨σ', H', I.unwish, q⟩
  | ret u => obtain ⟨v, σ', H', I, r, q⟩ := h; exact ⟨v, σ', H', I.unwish, r, q⟩
theorem PSs.nox {st : List Stmt} {t : TS} (h : PSs X.nox st t) : PSs X st t := fun pins s σ H D I hw =>
  wpAny_mono (h pins s σ H D (I.wish _) hw) (fun _ _ q => q.unwish) fun _ _ z => False.elim z
end
section
variable {X : Cx} {st : Stmt} {rest : List Stmt} {t u : TS} {e : Expr} {te : TE} {pos : Pos}
def tNext : TS := fun D σ H => D.nx σ H
def tSeq (t u : TS) : TS := fun D σ H => t { D with nx := u D } σ H
theorem pss_nil : PSs X [] tNext := fun _ _ σ H _ I h => wpAny_execs_nil ⟨σ, H, I, h⟩
theorem pss_cons (h1 : PS X st t) (h2 : PSs X rest u) : PSs X (st :: rest) (tSeq t u) := by
  intro pins s σ H D I h
  refine wpAny_execs_cons (thn (h1 pins s σ H { D with nx := u D } I h) fun f s1 q => ?_)
  cases f with
  | next =>
    obtain ⟨σ', H', I', q⟩ := q
    exact h2 pins s1 σ' H' D I' q
  | ret v => exact q
  | brk => exact q
  | cont => exact q
theorem pss_one (h1 : PS X st t) : PSs X [st] t := by
  intro pins s σ H D I h
  refine wpAny_execs_cons (thn (h1 pins s σ H D I h) fun f s1 q => ?_)
  cases f with
  | next => exact wpAny_execs_nil q
  | ret v => exact q
  | brk => exact q
  | cont => exact q
theorem Inv.quiet {pins : List (Addr × Obj)} {σ : St} {H : Hp} {s : Shared} (I : Inv X pins σ H s) : interactive X.env = false := by simp [interactive, I.ok.kind]
def tDrop (te : TE) : TS := fun D σ H => te σ H fun _ H1 => D.nx σ H1
theorem ps_expr (he : PE X e te) (hs : swapsWith e none pos.line X.env = pure false := by rfl) : PS X (.Expr e pos) (tDrop te) := by
  intro pins s σ H D I h
  exact wpAny_Expr_any (thn (he pins s σ H _ I h) fun v s1 ⟨x, H1, I1, r1, q1⟩ => ⟨σ, H1, I1, q1⟩) I.quiet hs
def tRet (te : TE) : TS := fun D σ H => te σ H D.rt
theorem ps_ret (he : PE X e te) : PS X (.Return (some e) pos) (tRet te) := by
  intro pins s σ H D I h
  exact wpAny_Return_some (thn (he pins s σ H _ I h) fun v s1 ⟨x, H1, I1, r1, q1⟩ => ⟨x, σ, H1, I1, r1, q1⟩)
def tIfS (c : TT) (t u : TS) : TS := fun D σ H => c σ H fun b H1 => if b = true then t D σ H1 else u D σ H1
theorem ps_if {c : Expr} {a b : List Stmt} {tc : TT} (hc : PT X c tc) (ha : PSs X a t) (hb : PSs X b u) : PS X (.If c a b pos) (tIfS tc t u) := by
  intro pins s σ H D I h
  refine wpAny_If (thn (hc pins s σ H _ I h) fun d s1 ⟨H1, I1, q1⟩ => ?_)
  cases d with
  | true => exact ha pins s1 σ H1 D I1 q1
  | false => exact hb pins s1 σ H1 D I1 q1
end
abbrev TG := V → St → Hp → (St → Hp → Prop) → Prop
abbrev TGs := List V → St → Hp → (St → Hp → Prop) → Prop
def PG (X : Cx) (target : Expr) (t : TG) : Prop :=
  ∀ (pins : List (Addr × Obj)) (s : Shared) (σ : St) (H : Hp) (v : V) (u : Value) (Q : St → Hp → Prop), Inv X pins σ H s → RelV v u → t v σ H Q →
    wpAny (model X.prog X.w) X.A (assign target X.env u) (fun _ s' => ∃ σ' H', Inv X pins σ' H' s' ∧ Q σ' H') X.xe s
def PGs (X : Cx) (ts : List Expr) (t : TGs) : Prop :=
  ∀ (pins : List (Addr × Obj)) (s : Shared) (σ : St) (H : Hp) (vs : List V) (us : List Value) (Q : St → Hp → Prop), Inv X pins σ H s → Vals vs us → t vs σ H Q →
    wpAny (model X.prog X.w) X.A (assignInOrder ((assignEach ts X.env).map (·.2)) us) (fun _ s' => ∃ σ' H', Inv X pins σ' H' s' ∧ Q σ' H') X.xe s
abbrev TSet := V → V → V → Hp → (Hp → Prop) → Prop
def PSet (X : Cx) (t : TSet) : Prop :=
  ∀ (pins : List (Addr × Obj)) (s : Shared) (σ : St) (H : Hp) (o i v : V) (ov iv u : Value) (Q : Hp → Prop), Inv X pins σ H s → RelV o ov → RelV i iv → RelV v u → t o i v H Q →
    wpAny (model X.prog X.w) X.A (setItem ov iv u) (fun _ s' => ∃ H', Inv X pins σ H' s' ∧ Q H') X.xe s
abbrev TIp := V → V → Hp → VK → Prop
def PIp (X : Cx) (op : Operator) (t : TIp) : Prop :=
  ∀ (pins : List (Addr × Obj)) (s : Shared) (σ : St) (H : Hp) (x y : V) (v u : Value) (Q : VK), Inv X pins σ H s → RelV x v → RelV y u → t x y H Q →
    wpAny (model X.prog X.w) X.A (inplaceOp op v u) (EP X pins σ Q) X.xe s
section
variable {X : Cx} {pos : Pos}
def gName (i : Nat) : TG := fun v σ H Q => Q (σ.set i (some v)) H
theorem pg_name {i : Nat} {x : Str} (hN : X.N.Nodup) (hi : X.N[i]? = some x) (hx : Loc X.env.scope x) (hf : X.fn x = true ∨ X.env.scope.names.lookup x = some .local := by first | exact .inl rfl | exact .inr rfl | assumption) : PG X (.Name x pos) (gName i) := by
  intro pins s σ H v u Q I r h
  exact wpAny_assign_Name (store_ok I hN hi hx r (fun s' I' => ⟨_, H, I', h⟩) hf)
def gNil : TGs := fun vs σ H Q => vs = [] ∧ Q σ H
def gCons (t : TG) (u : TGs) : TGs := fun vs σ H Q => ∃ v r, vs = v :: r ∧ t v σ H fun σ' H' => u r σ' H' Q
theorem pgs_nil : PGs X [] gNil := by
  intro pins s σ H vs us Q I r h
  obtain ⟨e, h⟩ := h
  subst e
  cases r
  exact assignInOrder_nil ⟨σ, H, I, h⟩
theorem pgs_cons {e : Expr} {es : List Expr} {t : TG} {u : TGs} (h1 : PG X e t) (h2 : PGs X es u)
    (hs : (assignEach (e :: es) X.env).map (·.2) = assign e X.env :: (assignEach es X.env).map (·.2) := by rfl) : PGs X (e :: es) (gCons t u) := by
  intro pins s σ H vs us Q I r h
  obtain ⟨v, vr, e1, h⟩ := h
  subst e1
  cases r with
  | cons r rr =>
    rw [hs]
    refine assignInOrder_cons (thn (h1 pins s σ H _ _ _ I r h) fun _ s1 ⟨σ1, H1, I1, q1⟩ => ?_)
    exact h2 pins s1 σ1 H1 _ _ Q I1 rr q1
def gTup (K : PySem.W.Frag) (n : Nat) (t : TGs) : TG := fun v σ H Q => ∃ a xs, v = .ref a ∧ SqT K H a xs ∧ xs.length = n ∧ t xs σ H Q
theorem pg_tup {es : List Expr} {k : Nat} {t : TGs} {n : Nat} (hc : X.calm = true) (h : PGs X es t)
    (hn : (assignEach es X.env).length = n := by rfl) (hst : (assignEach es X.env).findIdx? (·.1) = none := by rfl) : PG X (.Tuple es k pos) (gTup X.K n t) := by
  intro pins s σ H v u Q I r hw
  obtain ⟨a, xs, e1, hq, hl, hw⟩ := hw
  subst e1
  cases r
  obtain ⟨its, rv, ht, hz⟩ := I.tuple hq
  refine assign_Tuple_tuple (I.ok.hd hc) ht (by simp [hn, ← hl, rv.length]) hst fun h' hx => ?_
  have I1 : Inv X pins σ H { s with heap := h' } := I.kept (t' := s.toks) fun b o e => hx b o (Nat.ne_of_lt (Heap.lt_size e)) e
  exact h pins _ σ H xs _ Q I1 (by simpa using rv) hw
def gSub (to ti : TE) (t : TSet) : TG := fun v σ H Q => to σ H fun o H1 => ti σ H1 fun i H2 => t o i v H2 fun H3 => Q σ H3
theorem pg_sub {o i : Expr} {to ti : TE} {t : TSet} (ho : PE X o to) (hi : PE X i ti) (hs : PSet X t)
    (ha : ∀ v, assign (.Subscript o i pos) X.env v = (do
      let ov ← holding [v] (eval o X.env)
      let iv ← holding [v, ov] (eval i X.env)
      standAt pos
      holding [v, ov, iv] (setItem ov iv v)
      release [v, ov, iv] []) := by intro _; rfl) : PG X (.Subscript o i pos) (gSub to ti t) := by
  intro pins s σ H v u Q I r h
  rw [ha]
  refine wpAny_bind (wpAny_holding (thn (ho pins s σ H _ I h) fun ov s1 ⟨x, H1, I1, r1, q1⟩ => ?_))
  refine wpAny_bind (wpAny_holding (thn (hi pins s1 σ H1 _ I1 q1) fun iv s2 ⟨y, H2, I2, r2, q2⟩ => ?_))
  refine wpAny_bind (wpAny_standAt (wpAny_bind (wpAny_holding (thn (hs pins s2 σ H2 x y v ov iv u _ I2 r1 r2 r q2) fun _ s3 ⟨H3, I3, q3⟩ => ?_))))
  exact wpAny_release ⟨σ, H3, I3, q3⟩
def tAsg (te : TE) (g : TG) : TS := fun D σ H => te σ H fun x H1 => g x σ H1 D.nx
theorem ps_asg {tg e : Expr} {te : TE} {g : TG} (he : PE X e te) (hg : PG X tg g) (hs : swapsWithSole [tg] e pos.line X.env = pure false := by rfl) (hw : swappedStores [tg] e X.env = pure none := by rfl)
    (h1 : (assignEach [tg] X.env).map (·.2) = [assign tg X.env] := by rfl) : PS X (.Assign [tg] e pos) (tAsg te g) := by
  intro pins s σ H D I h
  refine wpAny_Assign_stores (thn (he pins s σ H _ I h) fun v s1 ⟨x, H1, I1, r1, q1⟩ => ?_) hs hw
  rw [h1]
  exact thn (hg pins s1 σ H1 x v _ I1 r1 q1) fun _ s2 q => q
theorem ps_set {i : Nat} {x : Str} {e : Expr} {te : TE} {pos' : Pos} (hN : X.N.Nodup) (hi : X.N[i]? = some x) (hx : Loc X.env.scope x) (he : PE X e te) (hs : swapsWith e (some (.Name x pos')) pos.line X.env = pure false := by rfl) (hf : X.fn x = true ∨ X.env.scope.names.lookup x = some .local := by first | exact .inl rfl | exact .inr rfl | assumption) :
    PS X (.Assign [.Name x pos'] e pos) (tAsg te (gName i)) := by
  intro pins s σ H D I h
  refine wpAny_Assign_Name (thn (he pins s σ H _ I h) fun v s1 ⟨y, H1, I1, r1, q1⟩ => ?_) hs
  exact store_ok I1 hN hi hx r1 (fun s2 I2 => ⟨_, H1, I2, q1⟩) hf
def tAug (i : Nat) (te : TE) (ti : TIp) : TS := fun D σ H => ∃ x, σ[i]? = some (some x) ∧ te σ H fun y H1 => ti x y H1 fun z H2 => D.nx (σ.set i (some z)) H2
theorem ps_aug {i : Nat} {x : Str} {e : Expr} {te : TE} {op : Operator} {ti : TIp} {pos' : Pos} (hN : X.N.Nodup) (hi : X.N[i]? = some x) (hx : Loc X.env.scope x) (he : PE X e te) (ho : PIp X op ti) (hf : X.fn x = true ∨ X.env.scope.names.lookup x = some .local := by first | exact .inl rfl | exact .inr rfl | assumption) :
    PS X (.AugAssign (.Name x pos') op e pos) (tAug i te ti) := by
  intro pins s σ H D I h
  obtain ⟨v, e1, h⟩ := h
  obtain ⟨m, hn, hl⟩ := I.loc
  have vis : Vis X.env.scope x := by rcases hx with k | k; exact .inl k; exact .inr (.inl k)
  obtain ⟨u, r, l⟩ := hl i x v hi e1 vis
  refine wpAny_AugAssign_Name ?_
  have go : wpAny (model X.prog X.w) X.A (eval e X.env) (fun w s₂ => wpAny (model X.prog X.w) X.A (inplaceOp op u w) (fun r s₃ => wpAny (model X.prog X.w) X.A (storeName X.env x r) (fun _ => SP X pins D .next) X.xe s₃) X.xe s₂) X.xe s := by
    refine thn (he pins s σ H _ I h) fun w s1 ⟨y, H1, I1, r1, q1⟩ => ?_
    refine thn (ho pins s1 σ H1 v y u w _ I1 r r1 q1) fun z s2 ⟨zv, H2, I2, r2, q2⟩ => ?_
    exact store_ok I2 hN hi hx r2 (fun s3 I3 => ⟨_, H2, I3, q2⟩) hf
  rcases l with ⟨hk, hm⟩ | ⟨hk, c, hc, hcell⟩
  · exact wpAny_loadName_local I.ok.kind hk hn hm go
  · rcases hk with hk | hk
    · exact wpAny_loadName_cell I.ok.kind hk hc hcell go
    · rcases hx with k | k
      · have : X.env.scope.names.lookup x = some .free := hk
        rw [k] at this; cases this
      · have : X.env.scope.names.lookup x = some .free := hk
        rw [k] at this; cases this
def tAugS (to ti te : TE) (tget : V → V → Hp → VK → Prop) (tip : TIp) (tset : TSet) : TS := fun D σ H => to σ H fun o H1 => ti σ H1 fun i H2 => tget o i H2 fun x H3 => te σ H3 fun y H4 => tip x y H4 fun z H5 => tset o i z H5 fun H6 => D.nx σ H6
def PGet (X : Cx) (t : V → V → Hp → VK → Prop) : Prop :=
  ∀ (pins : List (Addr × Obj)) (s : Shared) (σ : St) (H : Hp) (o i : V) (ov iv : Value) (Q : VK), Inv X pins σ H s → RelV o ov → RelV i iv → t o i H Q →
    wpAny (model X.prog X.w) X.A (getItem ov iv) (EP X pins σ Q) X.xe s
theorem ps_augS {o i e : Expr} {to ti te : TE} {tget : V → V → Hp → VK → Prop} {tip : TIp} {tset : TSet} {op : Operator} {tpos : Pos} (ho : PE X o to) (hi : PE X i ti) (hg : PGet X tget) (he : PE X e te) (hp : PIp X op tip) (hs : PSet X tset)
    (ha : ∀ ov iv new, augStore i ov iv new = (do holding [new, ov, iv] (setItem ov iv new); release [new, ov, iv] []; pure .next) := by intros; rfl) : PS X (.AugAssign (.Subscript o i tpos) op e pos) (tAugS to ti te tget tip tset) := by
  intro pins s σ H D I h
  refine wpAny_AugAssign_SubscriptAny (thn (ho pins s σ H _ I h) fun ov s1 ⟨x1, H1, I1, r1, q1⟩ => ?_) ha
  refine thn (hi pins s1 σ H1 _ I1 q1) fun iv s2 ⟨x2, H2, I2, r2, q2⟩ => ?_
  refine thn (hg pins s2 σ H2 x1 x2 ov iv _ I2 r1 r2 q2) fun old s3 ⟨x3, H3, I3, r3, q3⟩ => ?_
  refine thn (he pins s3 σ H3 _ I3 q3) fun v s4 ⟨x4, H4, I4, r4, q4⟩ => ?_
  refine thn (hp pins s4 σ H4 x3 x4 old v _ I4 r3 r4 q4) fun new s5 ⟨x5, H5, I5, r5, q5⟩ => ?_
  exact thn (hs pins s5 σ H5 x1 x2 x5 ov iv new _ I5 r1 r2 r5 q5) fun _ s6 ⟨H6, I6, q6⟩ => ⟨σ, H6, I6, q6⟩
def ipI (f : Int → Int → Int) : TIp := fun x y H Q => ∃ i j, x = .int i ∧ y = .int j ∧ Q (.int (f i j)) H
theorem ip_add : PIp X .Add (ipI fun i j => i + j) := by
  intro pins s σ H x y v u Q I r1 r2 h
  obtain ⟨i, j, e1, e2, q⟩ := h
  subst e1; subst e2
  obtain ⟨t, rfl⟩ := r1
  obtain ⟨t', rfl⟩ := r2
  exact iadd_int ⟨.int _, H, I.tok _, ⟨_, rfl⟩, q⟩
theorem ip_sub : PIp X .Sub (ipI fun i j => i - j) := by
  intro pins s σ H x y v u Q I r1 r2 h
  obtain ⟨i, j, e1, e2, q⟩ := h
  subst e1; subst e2
  obtain ⟨t, rfl⟩ := r1
  obtain ⟨t', rfl⟩ := r2
  exact isub_int ⟨.int _, H, I.tok _, ⟨_, rfl⟩, q⟩
end
section
variable {X : Cx} {pos : Pos}
def tWhile (c : TT) (tb : TS) : TS := fun D σ H => ∃ W : Nat → St → Hp → Prop, (∃ m, W m σ H) ∧ ∀ m σ H, W m σ H →
  c σ H fun b H1 => if b = true then ∃ N : St → Hp → Prop, (∀ σ' H', N σ' H' → ∃ m', m' < m ∧ W m' σ' H') ∧ tb { D with nx := N, ct := N, bk := D.nx } σ H1 else D.nx σ H1
theorem ps_while {c : Expr} {body : List Stmt} {tc : TT} {tb : TS} (hp : PassesOwn (model X.prog X.w) X.A X.env X.xe) (hc : PT X c tc) (hb : PSs X body tb) : PS X (.While c body [] pos) (tWhile tc tb) := by
  intro pins s σ H D I h
  obtain ⟨W, ⟨m0, w0⟩, turn⟩ := h
  refine wpAny_While (codeAny_whileLoop (fun n s' => ∃ σ' H', Inv X pins σ' H' s' ∧ W n σ' H') ?_ m0 ⟨σ, H, I, w0⟩)
  rintro n s1 ⟨σ1, H1, I1, w1⟩
  refine wpAny_passesOwn hp (thn (hc pins s1 σ1 H1 _ I1 (turn n σ1 H1 w1)) fun b s2 ⟨H2, I2, q2⟩ => ?_)
  cases b with
  | true =>
    obtain ⟨N, hN, q2⟩ := q2
    rw [if_pos rfl]
    refine wpAny_passesOwn hp (thn (hb pins s2 σ1 H2 _ I2 q2) fun f s3 q3 => ?_)
    cases f with
    | next =>
      obtain ⟨σ3, H3, I3, n3⟩ := q3
      obtain ⟨m', hm, w3⟩ := hN σ3 H3 n3
      exact ⟨m', hm, σ3, H3, I3, w3⟩
    | cont =>
      obtain ⟨σ3, H3, I3, n3⟩ := q3
      obtain ⟨m', hm, w3⟩ := hN σ3 H3 n3
      exact ⟨m', hm, σ3, H3, I3, w3⟩
    | brk => exact q3
    | ret v => exact q3
  | false =>
    rw [if_neg Bool.false_ne_true]
    exact wpAny_execs_nil ⟨σ1, H2, I2, q2⟩
end
structure It where
  go : Nat → Hp → Prop
  yld : Nat → Hp → V → Hp → Prop
  stop : Nat → Hp → Prop
def FpOk (X : Cx) (pins : List (Addr × Obj)) (H : Hp) (b : Addr) : Prop :=
  H b = none ∧ b ≠ X.env.locals ∧ b ∉ X.fs ∧ (b ∈ X.ex ∨ X.s_0.heap.objs.size ≤ b) ∧ (∀ x c, X.env.cells.lookup x = some c → c ≠ b) ∧ ∀ p ∈ X.pn ++ pins, p.1 ≠ b
theorem Inv.fpOk {X : Cx} {pins : List (Addr × Obj)} {σ : St} {H H' : Hp} {s : Shared} {b : Addr} (I : Inv X pins σ H s) (hb : s.heap.objs.size ≤ b) (hn : H' b = none) : FpOk X pins H' b := by
  refine ⟨hn, Nat.ne_of_gt (Nat.lt_of_lt_of_le I.lt hb), I.nofs hb, .inr (Nat.le_trans I.sz hb), fun x c e z => ?_, fun p hp z => ?_⟩
  · obtain ⟨v, q⟩ := I.cell x c e
    exact absurd (Nat.lt_of_lt_of_le q.lt (by rw [z]; exact hb)) (Nat.lt_irrefl _)
  · exact absurd (Nat.lt_of_lt_of_le (Heap.lt_size (I.pin p hp).1) (by rw [z]; exact hb)) (Nat.lt_irrefl _)
structure Turn (P : Program) (w : World) (K : PySem.W.Frag) (tg : Expr) (J : It) (fp : List Addr) (it : Addr) (tn : Nat → Heap → Prop) : Prop where
  mem : it ∈ fp
  obj : ∀ i h, tn i h → ∀ b ∈ fp, ∃ o, h.get? b = some o ∧ ∀ v, o.data ≠ .cell v
  keep : ∀ i h h', tn i h → (∀ b ∈ fp, ∀ o, h.get? b = some o → h'.get? b = some o) → tn i h'
  item : ∀ (X : Cx), X.prog = P → X.w = w → X.K = K → X.calm = true → ∀ (i : Nat) (pins : List (Addr × Obj)) (s : Shared) (σ : St) (H : Hp) (E : Value → Shared → Prop), Inv X pins σ H s → (∀ b ∈ fp, FpOk X pins H b) → tn i s.heap → J.go i H →
    wpAny (model P w) X.A (pyNext (.ref it)) (fun r s1 => ∃ u, r = some u ∧
      wpAny (model P w) X.A (letOwnedTupleGo tg (.ref it) u) (fun _ s2 => ∃ x H', Inv X pins σ H' s2 ∧ RelV x u ∧ J.yld i H x H' ∧ tn (i + 1) s2.heap ∧ ∀ b ∈ fp, H' b = none) E s1) E s
  done : ∀ (X : Cx), X.prog = P → X.w = w → X.K = K → X.calm = true → ∀ (i : Nat) (pins : List (Addr × Obj)) (s : Shared) (σ : St) (H : Hp) (E : Value → Shared → Prop), Inv X pins σ H s → (∀ b ∈ fp, FpOk X pins H b) → tn i s.heap → J.stop i H →
    wpAny (model P w) X.A (pyNext (.ref it)) (fun r s1 => r = none ∧ Inv X pins σ H s1) E s
  self : ∀ (A : Around) (i : Nat) (s : Shared) (Q : Value → Shared → Prop) (E : Value → Shared → Prop), tn i s.heap → Q (.ref it) s → wpAny (model P w) A (pyIter (.ref it)) Q E s
abbrev TI := St → Hp → (It → Hp → Prop) → Prop
def PIE (X : Cx) (pins : List (Addr × Obj)) (σ : St) (tg : Expr) (R : It → Hp → Prop) (itv : Value) (s2 : Shared) : Prop :=
  ∃ (it : Addr) (fp : List Addr) (tn : Nat → Heap → Prop) (J : It) (H' : Hp), itv = .ref it ∧ Inv X pins σ H' s2 ∧ Turn X.prog X.w X.K tg J fp it tn ∧ tn 0 s2.heap ∧ (∀ b ∈ fp, FpOk X pins H' b) ∧ R J H'
def PI (X : Cx) (tg iter : Expr) (wi : TI) : Prop :=
  ∀ (pins : List (Addr × Obj)) (s : Shared) (σ : St) (H : Hp) (R : It → Hp → Prop), Inv X pins σ H s → wi σ H R →
    wpAny (model X.prog X.w) X.A (eval iter X.env) (fun v s1 => wpAny (model X.prog X.w) X.A (pyIter v) (PIE X pins σ tg R) X.xe s1) X.xe s
theorem go_of {M : Model} {A : Around} {E : Value → Shared → Prop} {s : Shared} {tg : Expr} {it : Addr} {u : Value} {o : Obj} {n : String} {vs : Array Value} {Q : Unit → Shared → Prop} (ho : s.heap.get? it = some o) (hc : o.cls = .type n) (hd : o.data = .fields vs)
    (hn : ["enumerate", "zip", "dict_itemiterator", "dict_reverseitemiterator", "odict_iterator", "itertools.zip_longest", "itertools.pairwise"].contains n = false) (hQ : Q () s) : wpAny M A (letOwnedTupleGo tg (.ref it) u) Q E s := by
  unfold letOwnedTupleGo
  cases tg <;> first
    | exact wpAny_pure hQ
    | (cases u <;> first
        | exact wpAny_pure hQ
        | (refine wpAny_bind (wpAny_load ho ?_)
           rw [hc, hd]
           show wpAny M A (if (["enumerate", "zip", "dict_itemiterator", "dict_reverseitemiterator", "odict_iterator", "itertools.zip_longest", "itertools.pairwise"].contains n && vs[0]? == some (rawInt _)) = true then _ else _) Q E s
           rw [if_neg (by intro h; rw [hn, Bool.false_and] at h; cases h)]
           exact wpAny_pure hQ))
def Itl (K : PySem.W.Frag) (a : Addr) : It :=
  ⟨fun i H => ∃ xs x, SqL K H a xs ∧ xs[i]? = some x, fun i H x H' => H' = H ∧ ∀ xs, SqL K H a xs → xs[i]? = some x, fun i H => ∃ xs, SqL K H a xs ∧ xs.length ≤ i⟩
def Itr (lo : Int) (n : Nat) : It := ⟨fun i _ => i < n, fun i H x H' => H' = H ∧ x = .int (lo + i), fun i _ => n ≤ i⟩
theorem turn_list {P : Program} {w : World} {K : PySem.W.Frag} {tg : Expr} (a it : Addr) : Turn P w K tg (Itl K a) [it] it (fun i h => h.IsListIter it a i) where
  mem := by simp
  obj := fun i h st b hb => by
    have e : b = it := by simpa using hb
    subst e
    obtain ⟨o, e, c, d⟩ := st
    exact ⟨o, e, fun v z => by rw [d] at z; cases z⟩
  keep := fun i h h' st k => st.at fun o e => k it (by simp) o e
  item := by
    intro X hP hw hK hc i pins s σ H E I hf st hg
    subst hP hw hK
    obtain ⟨xs, x, hq, hx⟩ := hg
    obtain ⟨its, rv, p, hz⟩ := I.list hq
    obtain ⟨u, hu, ru⟩ := rv.get hx
    obtain ⟨f0, f1, f2, f3, f4, f5⟩ := hf it (by simp)
    refine wpAny_pyNext_list_item st p.isList (x := u) (by simpa using hu) fun h' st' sb => ?_
    have I1 : Inv X pins σ H { s with heap := h' } := I.turned (t' := s.toks) (fun b o hb e => (sb.2 b hb).trans e) f0 f1 f3 f4 f5
    obtain ⟨o, e, c, d⟩ := id st'
    exact ⟨u, rfl, go_of (s := { s with heap := h' }) e c d (by decide) ⟨x, H, I1, ru, ⟨rfl, fun ys hy => by rw [I.list_inj hy hq]; exact hx⟩, st', fun b hb => (hf b hb).1⟩⟩
  done := by
    intro X hP hw hK hc i pins s σ H E I hf st hg
    subst hP hw hK
    obtain ⟨xs, hq, hx⟩ := hg
    obtain ⟨its, rv, p, hz⟩ := I.list hq
    obtain ⟨f0, f1, f2, f3, f4, f5⟩ := hf it (by simp)
    have hl := rv.length
    exact wpAny_pyNext_list_end (I.ok.hd hc) st p.isList (by simp; omega) fun h' eb => ⟨rfl, I.turned (t' := s.toks) (fun b o hb e => eb b o hb e) f0 f1 f3 f4 f5⟩
  self := fun _ _ _ _ _ st h => wpAny_pyIter_listiter st h
theorem turn_range {P : Program} {w : World} {K : PySem.W.Frag} {tg : Expr} (it : Addr) (lo : Int) (n : Nat) : Turn P w K tg (Itr lo n) [it] it (fun i h => IsRangeIter h it (lo + (i : Nat) * 1) ((n : Int) - (i : Nat)) 1) where
  mem := by simp
  obj := fun i h st b hb => by
    have e : b = it := by simpa using hb
    subst e
    exact ⟨_, st, fun v z => by
      have z' : Data.fields _ = Data.cell v := z
      cases z'⟩
  keep := fun i h h' st k => k it (by simp) _ st
  item := by
    intro X hP hw hK hc i pins s σ H E I hf st hg
    subst hP hw hK
    obtain ⟨f0, f1, f2, f3, f4, f5⟩ := hf it (by simp)
    have W := Walks.range (prog := X.prog) (w := X.w) (I.ok.hd hc) it lo 1 n
    refine W.item i s _ _ hg st fun v h' tk hv st' kk => ?_
    obtain ⟨t, rfl⟩ := hv
    have I1 : Inv X pins σ H { s with heap := h', toks := tk } := I.turned (fun b o hb e => kk b o (by simpa using hb) e) f0 f1 f3 f4 f5
    refine ⟨_, rfl, go_of (s := { s with heap := h', toks := tk }) (n := "range_iterator") st' rfl rfl (by decide) ⟨.int (lo + i), H, I1, ⟨t, ?_⟩, ⟨rfl, rfl⟩, st', fun b hb => (hf b hb).1⟩⟩
    rw [Int.mul_one]
  done := by
    intro X hP hw hK hc i pins s σ H E I hf st hg
    subst hP hw hK
    obtain ⟨f0, f1, f2, f3, f4, f5⟩ := hf it (by simp)
    exact wpAny_pyNext_range_end (I.ok.hd hc) st (by have : n ≤ i := hg; omega) fun h' eb => ⟨rfl, I.turned (t' := s.toks) (fun b o hb e => eb b o hb e) f0 f1 f3 f4 f5⟩
  self := fun _ _ _ _ _ st h => wpAny_pyIter_rangeiter st h
end L2
namespace L2
open PySem PySem.Spec PyProof.Rows
section
variable {X : Cx} {tg : Expr}
def iList (K : PySem.W.Frag) (tl : TE) : TI := fun σ H R => tl σ H fun x H1 => ∃ a, x = .ref a ∧ (∃ xs, SqL K H1 a xs) ∧ R (Itl K a) H1
theorem pi_list {l : Expr} {tl : TE} (hl : PE X l tl) : PI X tg l (iList X.K tl) := by
  intro pins s σ H R I h
  refine thn (hl pins s σ H _ I h) fun v s1 ⟨x, H1, I1, r1, q1⟩ => ?_
  obtain ⟨a, e, ⟨xs, hq⟩, q⟩ := q1
  subst e
  cases r1
  obtain ⟨its, rv, p, hz⟩ := I1.list hq
  refine wpAny_pyIter_list p.isList ?_
  refine ⟨s1.heap.objs.size, [s1.heap.objs.size], _, _, H1, rfl, I1.kept (t' := s1.toks) fun b o e => Heap.get?_push_of_some _ e, turn_list a _, ⟨_, Heap.get?_push_size _ rfl, rfl, rfl⟩, fun b hb => ?_, q⟩
  have e : b = s1.heap.objs.size := by simpa using hb
  subst e
  exact I1.fpOk (Nat.le_refl _) (I1.hok.fresh (Nat.le_refl _))
theorem range_it {pins : List (Addr × Obj)} {σ : St} {H : Hp} {s : Shared} {R : It → Hp → Prop} {E : Value → Shared → Prop} {lo hi : Int} {t u v : Tok} {tk : Nat} (I : Inv X pins σ H s) (h1 : -(2 ^ 62) ≤ lo) (h2 : lo < 2 ^ 62) (h3 : -(2 ^ 62) ≤ hi) (h4 : hi < 2 ^ 62)
    (q : R (Itr lo (hi - lo).toNat) H) : wpAny (model X.prog X.w) X.A (pyIter (.ref s.heap.objs.size)) (PIE X pins σ tg R) E { s with heap := s.heap.push { cls := .type "range", data := .fields #[.int lo t, .int hi u, .int 1 v] }, toks := tk } := by
  refine wpAny_pyIter_range (IsRange.new ..) (small_one h1 h2 h3 h4) ?_
  have I1 : Inv X pins σ H { s with heap := s.heap.push { cls := .type "range", data := .fields #[.int lo t, .int hi u, .int 1 v] }, toks := tk } := I.kept fun b o e => Heap.get?_push_of_some _ e
  refine ⟨(s.heap.push { cls := .type "range", data := .fields #[.int lo t, .int hi u, .int 1 v] }).objs.size, [(s.heap.push { cls := .type "range", data := .fields #[.int lo t, .int hi u, .int 1 v] }).objs.size], _, _, H, rfl,
    I1.kept (t' := tk) fun b o e => Heap.get?_push_of_some _ e, turn_range _ lo (hi - lo).toNat, ?_, fun b hb => ?_, q⟩
  · have e1 : lo + ((0 : Nat) : Int) * 1 = lo := by simp
    have e2 : (((hi - lo).toNat : Nat) : Int) - ((0 : Nat) : Int) = Builtin.Range.rangeSize lo hi 1 := by rw [rangeSize_one]; split <;> omega
    show IsRangeIter _ _ (lo + ((0 : Nat) : Int) * 1) ((((hi - lo).toNat : Nat) : Int) - ((0 : Nat) : Int)) 1
    rw [e1, e2]
    exact Heap.get?_push_size _ rfl
  · have e : b = (s.heap.push { cls := .type "range", data := .fields #[.int lo t, .int hi u, .int 1 v] }).objs.size := by simpa using hb
    subst e
    exact I1.fpOk (Nat.le_refl _) (I1.hok.fresh (Nat.le_refl _))
def iRng1 (ta : TA) : TI := fun σ H R => ta σ H fun vs H1 => ∃ j : Int, vs = [.int j] ∧ -(2 ^ 62) ≤ j ∧ j < 2 ^ 62 ∧ R (Itr 0 j.toNat) H1
theorem pi_range1 {a : Expr} {ta : TA} {p pos : Pos} (hg : Gl X "range") (hm : X.mg "range" = none) (ha : PA X [a] ta) (hs : starEach [a] X.env = [(false, eval a X.env)] := by rfl) : PI X tg (.Call (.Name "range" p) [a] [] pos) (iRng1 ta) := by
  intro pins s σ H R I h
  refine Call_ (ld_blt I hg hm boot_range (PyProof.Rows.callWith_type1 (thn (ha pos pins s σ H _ I h) fun us s1 ⟨vs, H1, I1, r1, q1⟩ => ?_) hs rfl))
  obtain ⟨j, e, q1, q2, q⟩ := q1
  subst e
  cases r1 with
  | cons r rr =>
    cases rr
    obtain ⟨t, rfl⟩ := r
    exact call_range_1 (range_it I1 (by omega) (by omega) q1 q2 (by simpa using q))
def tFor (wi : TI) (g : TG) (tb : TS) : TS := fun D σ H => wi σ H fun J H1 => ∃ W : Nat → Nat → St → Hp → Prop, (∃ m, W 0 m σ H1) ∧ ∀ i m σ H, W i m σ H →
  (J.stop i H ∧ D.nx σ H) ∨ (J.go i H ∧ ∃ N : St → Hp → Prop, (∀ σ' H', N σ' H' → ∃ m', m' < m ∧ W (i + 1) m' σ' H') ∧ ∀ x H', J.yld i H x H' → g x σ H' fun σ2 H2 => tb { D with nx := N, ct := N, bk := D.nx } σ2 H2)
def pinsAt (fp : List Addr) (h : Heap) : List (Addr × Obj) := fp.filterMap fun b => (h.get? b).map fun o => (b, o)
theorem mem_pinsAt {fp : List Addr} {h : Heap} {b : Addr} {o : Obj} (hb : b ∈ fp) (e : h.get? b = some o) : (b, o) ∈ pinsAt fp h := List.mem_filterMap.mpr ⟨b, hb, by rw [e]; rfl⟩
theorem of_pinsAt {fp : List Addr} {h : Heap} {p : Addr × Obj} (hp : p ∈ pinsAt fp h) : p.1 ∈ fp ∧ h.get? p.1 = some p.2 := by
  obtain ⟨b, hb, e⟩ := List.mem_filterMap.mp hp
  cases q : h.get? b with
  | none => rw [q] at e; cases e
  | some o =>
    rw [q] at e
    have e' : (b, o) = p := Option.some.inj e
    subst e'
    exact ⟨hb, q⟩
theorem Inv.pinned {pins : List (Addr × Obj)} {σ : St} {H : Hp} {s : Shared} {fp : List Addr} (I : Inv X pins σ H s) (hf : ∀ b ∈ fp, FpOk X pins H b) (ho : ∀ b ∈ fp, ∃ o, s.heap.get? b = some o ∧ ∀ v, o.data ≠ .cell v) : Inv X (pins ++ pinsAt fp s.heap) σ H s :=
  I.pins_of fun p hp => (List.mem_append.mp hp).elim (fun z => I.pin p (List.mem_append_right _ z)) fun z => by
    obtain ⟨hb, e⟩ := of_pinsAt z
    obtain ⟨f0, f1, f2, _⟩ := hf p.1 hb
    obtain ⟨o, e', d⟩ := ho p.1 hb
    rw [e] at e'; cases e'
    exact ⟨e, f0, f1, f2, d⟩
theorem Inv.unpinned {pins pl : List (Addr × Obj)} {σ : St} {H : Hp} {s : Shared} (I : Inv X (pins ++ pl) σ H s) : Inv X pins σ H s := I.pins_of fun p hp => I.pin p (List.mem_append_right _ (List.mem_append_left _ hp))
theorem ps_for {iter : Expr} {body : List Stmt} {wi : TI} {g : TG} {tb : TS} {pos : Pos} (hp : PassesOwn (model X.prog X.w) X.A X.env X.xe) (hc : X.calm = true) (hi : PI X tg iter wi) (hg : PG X tg g) (hb : PSs X body tb)
    (hs : ∀ x, foldedSetIterable iter X.env x = pure x := by intro _; rfl) : PS X (.For tg iter body [] pos) (tFor wi g tb) := by
  intro pins s σ H D I h
  refine wpAny_For (thn (hi pins s σ H _ I h) fun v s1 h1 => thn h1 fun itv s2 h2 => ?_) hs
  obtain ⟨it, fp, tn, J, H2, e, I2, T, st2, f2, W, ⟨m0, w0⟩, turn⟩ := h2
  subst e
  have stat : ∀ {H' : Hp}, (∀ b ∈ fp, H' b = none) → ∀ b ∈ fp, FpOk X pins H' b := fun hn b hb => ⟨hn b hb, (f2 b hb).2⟩
  refine codeAny_forLoop_any (fun n s' => ∃ i σ' H', Inv X pins σ' H' s' ∧ tn i s'.heap ∧ (∀ b ∈ fp, H' b = none) ∧ W i n σ' H') ?_ m0 ⟨0, σ, H2, I2, st2, fun b hb => (f2 b hb).1, w0⟩
  rintro n s3 ⟨i, σ3, H3, I3, st3, fr3, w3⟩
  rcases turn i n σ3 H3 w3 with ⟨stop, qn⟩ | ⟨go, N, hN, step⟩
  · refine wpAny_passesOwn hp (thn (T.done X rfl rfl rfl hc i pins s3 σ3 H3 X.xe I3 (stat fr3) st3 stop) fun r s4 ⟨hr, I4⟩ => ?_)
    subst hr
    exact wpAny_execs_nil ⟨σ3, H3, I4, qn⟩
  · refine wpAny_passesOwn hp (thn (T.item X rfl rfl rfl hc i pins s3 σ3 H3 X.xe I3 (stat fr3) st3 go) fun r s4 ⟨u, hr, h4⟩ => ?_)
    subst hr
    refine wpAny_passesOwn hp (thn h4 fun _ s5 ⟨x, H5, I5, r5, y5, st5, fr5⟩ => ?_)
    have I5' := I5.pinned (stat fr5) (T.obj _ _ st5)
    refine wpAny_passesOwn hp (thn (hg _ s5 σ3 H5 x u _ I5' r5 (step x H5 y5)) fun _ s6 ⟨σ6, H6, I6, q6⟩ => ?_)
    refine wpAny_passesOwn hp (thn (hb _ s6 σ6 H6 _ I6 q6) fun f s7 q7 => ?_)
    have again : ∀ {σ7 : St} {H7 : Hp}, Inv X (pins ++ pinsAt fp s5.heap) σ7 H7 s7 → N σ7 H7 → ∃ m, m < n ∧ ∃ i σ' H', Inv X pins σ' H' s7 ∧ tn i s7.heap ∧ (∀ b ∈ fp, H' b = none) ∧ W i m σ' H' := fun {σ7 H7} I7 n7 => by
      obtain ⟨m', hm, w7⟩ := hN σ7 H7 n7
      refine ⟨m', hm, i + 1, σ7, H7, I7.unpinned, T.keep _ _ _ st5 fun b hb o e => (I7.pin (b, o) (List.mem_append_right _ (List.mem_append_right _ (mem_pinsAt hb e)))).1, fun b hb => ?_, w7⟩
      obtain ⟨o, e, d⟩ := T.obj _ _ st5 b hb
      exact (I7.pin (b, o) (List.mem_append_right _ (List.mem_append_right _ (mem_pinsAt hb e)))).2.1
    cases f with
    | next => obtain ⟨σ7, H7, I7, n7⟩ := q7; exact again I7 n7
    | cont => obtain ⟨σ7, H7, I7, n7⟩ := q7; exact again I7 n7
    | brk => obtain ⟨σ7, H7, I7, q7⟩ := q7; exact ⟨σ7, H7, I7.unpinned, q7⟩
    | ret v => obtain ⟨x7, σ7, H7, I7, r7, q7⟩ := q7; exact ⟨x7, σ7, H7, I7.unpinned, r7, q7⟩
end
theorem for_list {K : PySem.W.Frag} {a : Addr} {xs : List V} {g : TG} {tb : TS} {D : Ends} {σ : St} {H : Hp} (Pv : Nat → St → Hp → Prop) (h0 : Pv 0 σ H) (hl : ∀ i σ H, i ≤ xs.length → Pv i σ H → SqL K H a xs)
    (hs : ∀ i x σ H, xs[i]? = some x → Pv i σ H → g x σ H fun σ2 H2 => tb { D with nx := Pv (i + 1), ct := Pv (i + 1), bk := D.nx } σ2 H2) (hd : ∀ σ H, Pv xs.length σ H → D.nx σ H) :
    ∃ W : Nat → Nat → St → Hp → Prop, (∃ m, W 0 m σ H) ∧ ∀ i m σ H, W i m σ H →
      ((Itl K a).stop i H ∧ D.nx σ H) ∨ ((Itl K a).go i H ∧ ∃ N : St → Hp → Prop, (∀ σ' H', N σ' H' → ∃ m', m' < m ∧ W (i + 1) m' σ' H') ∧ ∀ x H', (Itl K a).yld i H x H' → g x σ H' fun σ2 H2 => tb { D with nx := N, ct := N, bk := D.nx } σ2 H2) := by
  refine ⟨fun i m σ H => m = xs.length - i ∧ i ≤ xs.length ∧ Pv i σ H, ⟨xs.length, by simp, Nat.zero_le _, h0⟩, ?_⟩
  rintro i m σ H ⟨rfl, hi, p⟩
  have q := hl i σ H hi p
  by_cases hlt : i < xs.length
  · refine .inr ⟨⟨xs, xs[i], q, by simp [hlt]⟩, Pv (i + 1), fun σ' H' p' => ⟨xs.length - (i + 1), by omega, rfl, hlt, p'⟩, fun x H' y => ?_⟩
    obtain ⟨e, y⟩ := y
    subst e
    exact hs i x σ _ (y xs q) p
  · have e : i = xs.length := by omega
    subst e
    exact .inl ⟨⟨xs, q, Nat.le_refl _⟩, hd σ H p⟩
theorem for_range {lo : Int} {n : Nat} {g : TG} {tb : TS} {D : Ends} {σ : St} {H : Hp} (Pv : Nat → St → Hp → Prop) (h0 : Pv 0 σ H)
    (hs : ∀ i σ H, i < n → Pv i σ H → g (.int (lo + i)) σ H fun σ2 H2 => tb { D with nx := Pv (i + 1), ct := Pv (i + 1), bk := D.nx } σ2 H2) (hd : ∀ σ H, Pv n σ H → D.nx σ H) :
    ∃ W : Nat → Nat → St → Hp → Prop, (∃ m, W 0 m σ H) ∧ ∀ i m σ H, W i m σ H →
      ((Itr lo n).stop i H ∧ D.nx σ H) ∨ ((Itr lo n).go i H ∧ ∃ N : St → Hp → Prop, (∀ σ' H', N σ' H' → ∃ m', m' < m ∧ W (i + 1) m' σ' H') ∧ ∀ x H', (Itr lo n).yld i H x H' → g x σ H' fun σ2 H2 => tb { D with nx := N, ct := N, bk := D.nx } σ2 H2) := by
  refine ⟨fun i m σ H => m = n - i ∧ i ≤ n ∧ Pv i σ H, ⟨n, by simp, Nat.zero_le _, h0⟩, ?_⟩
  rintro i m σ H ⟨rfl, hi, p⟩
  by_cases hlt : i < n
  · refine .inr ⟨hlt, Pv (i + 1), fun σ' H' p' => ⟨n - (i + 1), by omega, rfl, hlt, p'⟩, fun x H' y => ?_⟩
    obtain ⟨e, y⟩ := y
    subst e y
    exact hs i σ _ hlt p
  · have e : i = n := by omega
    subst e
    exact .inl ⟨Nat.le_refl _, hd σ H p⟩
end L2
namespace L2
open PySem PySem.Spec PyProof.Rows
abbrev R2 := V → V → Hp → VK → Prop
def OpR (X : Cx) (f : Value → Value → Sem Value) (r : R2) : Prop :=
  ∀ (pins : List (Addr × Obj)) (s : Shared) (σ : St) (H : Hp) (x y : V) (v u : Value) (Q : VK), Inv X pins σ H s → RelV x v → RelV y u → r x y H Q →
    wpAny (model X.prog X.w) X.A (f v u) (EP X pins σ Q) X.xe s
def UnR (X : Cx) (f : Value → Sem Value) (r : V → Hp → VK → Prop) : Prop :=
  ∀ (pins : List (Addr × Obj)) (s : Shared) (σ : St) (H : Hp) (x : V) (v : Value) (Q : VK), Inv X pins σ H s → RelV x v → r x H Q →
    wpAny (model X.prog X.w) X.A (f v) (EP X pins σ Q) X.xe s
def CallR (X : Cx) (f : Value) (r : List V → Hp → VK → Prop) : Prop :=
  ∀ (pins : List (Addr × Obj)) (s : Shared) (σ : St) (H : Hp) (xs : List V) (us : List Value) (Q : VK), Inv X pins σ H s → Vals xs us → r xs H Q →
    wpAny (model X.prog X.w) X.A (call f us) (EP X pins σ Q) X.xe s
def TruR (X : Cx) (r : V → Hp → (Bool → Hp → Prop) → Prop) : Prop :=
  ∀ (pins : List (Addr × Obj)) (s : Shared) (σ : St) (H : Hp) (x : V) (v : Value) (Q : Bool → Hp → Prop), Inv X pins σ H s → RelV x v → r x H Q →
    wpAny (model X.prog X.w) X.A (truthy v) (TP X pins σ Q) X.xe s
def tOp (r : R2) (ta tb : TE) : TE := fun σ H Q => ta σ H fun x H1 => tb σ H1 fun y H2 => r x y H2 Q
def tUn (r : V → Hp → VK → Prop) (ta : TE) : TE := fun σ H Q => ta σ H fun x H1 => r x H1 Q
def rI (C : Int → Int → Prop) (g : Int → Int → V) : R2 := fun x y H Q => ∃ i j, x = .int i ∧ y = .int j ∧ C i j ∧ Q (g i j) H
def rI0 (g : Int → Int → V) : R2 := fun x y H Q => ∃ i j, x = .int i ∧ y = .int j ∧ Q (g i j) H
def rU (g : Int → V) : V → Hp → VK → Prop := fun x H Q => ∃ i, x = .int i ∧ Q (g i) H
section
variable {X : Cx} {a b c : Expr} {ta tb tc : TE} {pos : Pos}
theorem binT (ha : PE X a ta) (hb : PE X b tb) {pins : List (Addr × Obj)} {s : Shared} {σ : St} {H : Hp} {R : V → V → Hp → Prop} (I : Inv X pins σ H s)
    (h : ta σ H fun x H1 => tb σ H1 fun y H2 => R x y H2) {Q : Value → Shared → Prop} {f : Value → Value → Sem Value}
    (hf : ∀ v u s2 x y H2, Inv X pins σ H2 s2 → RelV x v → RelV y u → R x y H2 → wpAny (model X.prog X.w) X.A (f v u) Q X.xe s2) :
    wpAny (model X.prog X.w) X.A (eval a X.env) (fun v s₁ => wpAny (model X.prog X.w) X.A (eval b X.env) (fun u s₂ => wpAny (model X.prog X.w) X.A (f v u) Q X.xe s₂) X.xe s₁) X.xe s := by
  refine thn (ha pins s σ H _ I h) fun v s1 ⟨x, H1, I1, r1, q1⟩ => ?_
  refine thn (hb pins s1 σ H1 _ I1 q1) fun u s2 ⟨y, H2, I2, r2, q2⟩ => ?_
  exact hf v u s2 x y H2 I2 r1 r2 q2
theorem pe_op {op : Operator} {r : R2} (ho : OpR X (binaryOp op) r) (ha : PE X a ta) (hb : PE X b tb) : PE X (.BinOp a op b pos) (tOp r ta tb) := by
  intro pins s σ H Q I h
  exact wpAny_BinOp (binT ha hb I h fun v u s2 x y H2 I2 rx ry q => ho pins s2 σ H2 x y v u Q I2 rx ry q)
theorem pe_un {op : UnaryOp} {r : V → Hp → VK → Prop} (ho : UnR X (unaryOp op) r) (ha : PE X a ta) : PE X (.UnaryOp op a pos) (tUn r ta) := by
  intro pins s σ H Q I h
  exact UnaryOp_ (thn (ha pins s σ H _ I h) fun v s1 ⟨x, H1, I1, r1, q1⟩ => ho pins s1 σ H1 x v Q I1 r1 q1)
theorem opI {f : Value → Value → Sem Value} {C : Int → Int → Prop} {g : Int → Int → Int}
    (rule : ∀ (i j : Int) (t u : Tok) (s : Shared) (Q : Value → Shared → Prop) (E : Value → Shared → Prop), C i j → Q (.int (g i j) s.toks) { s with toks := s.toks + 1 } → wpAny (model X.prog X.w) X.A (f (.int i t) (.int j u)) Q E s) :
    OpR X f (rI C fun i j => .int (g i j)) := by
  intro pins s σ H x y v u Q I rx ry h
  obtain ⟨i, j, rfl, rfl, hc, q⟩ := h
  obtain ⟨t, rfl⟩ := rx
  obtain ⟨t', rfl⟩ := ry
  exact rule i j t t' s _ _ hc ⟨.int (g i j), H, I.tok _, ⟨_, rfl⟩, q⟩
theorem opI0 {f : Value → Value → Sem Value} {g : Int → Int → Int}
    (rule : ∀ (i j : Int) (t u : Tok) (s : Shared) (Q : Value → Shared → Prop) (E : Value → Shared → Prop), Q (.int (g i j) s.toks) { s with toks := s.toks + 1 } → wpAny (model X.prog X.w) X.A (f (.int i t) (.int j u)) Q E s) :
    OpR X f (rI0 fun i j => .int (g i j)) := by
  intro pins s σ H x y v u Q I rx ry h
  obtain ⟨i, j, rfl, rfl, q⟩ := h
  obtain ⟨t, rfl⟩ := rx
  obtain ⟨t', rfl⟩ := ry
  exact rule i j t t' s _ _ ⟨.int (g i j), H, I.tok _, ⟨_, rfl⟩, q⟩
theorem opB0 {f : Value → Value → Sem Value} {g : Int → Int → Bool}
    (rule : ∀ (i j : Int) (t u : Tok) (s : Shared) (Q : Value → Shared → Prop) (E : Value → Shared → Prop), Q (.bool (g i j)) s → wpAny (model X.prog X.w) X.A (f (.int i t) (.int j u)) Q E s) :
    OpR X f (rI0 fun i j => .bl (g i j)) := by
  intro pins s σ H x y v u Q I rx ry h
  obtain ⟨i, j, rfl, rfl, q⟩ := h
  obtain ⟨t, rfl⟩ := rx
  obtain ⟨t', rfl⟩ := ry
  exact rule i j t t' s _ _ ⟨.bl (g i j), H, I, rfl, q⟩
def CDiv (i j : Int) : Prop := 0 < j ∧ j < 1073741824
def CPow (i j : Int) : Prop := 0 ≤ j ∧ j ≤ 1000000 ∧ i.natAbs < 2 ^ 64
def CMul (i j : Int) : Prop := (-(2 ^ 64) < i ∧ i < 2 ^ 64) ∨ (-(2 ^ 64) < j ∧ j < 2 ^ 64)
theorem CMul.ok {i j : Int} (h : CMul i j) : IntMulOk i j := by
  rcases h with ⟨h1, h2⟩ | ⟨h1, h2⟩
  · exact .of_left (intBits_le_64 h1 h2)
  · exact .of_right (intBits_le_64 h1 h2)
theorem two_pow_nn (k : Nat) : (0 : Int) ≤ 2 ^ k := by
  rw [two_pow_cast]
  exact Int.natCast_nonneg _
theorem op_add : OpR X (binaryOp .Add) (rI0 fun i j => .int (i + j)) := opI0 fun _ _ _ _ _ _ _ q => add_int q
theorem op_sub : OpR X (binaryOp .Sub) (rI0 fun i j => .int (i - j)) := opI0 fun _ _ _ _ _ _ _ q => sub_int q
theorem op_mul : OpR X (binaryOp .Mult) (rI CMul fun i j => .int (i * j)) := opI fun _ _ _ _ _ _ _ hc q => mul_int q hc.ok
theorem op_fdiv : OpR X (binaryOp .FloorDiv) (rI CDiv fun i j => .int (i / j)) := opI fun i j _ _ _ _ _ hc q => by
  have h1 : (0 : Int) < j := hc.1
  have h2 : j < 1073741824 := hc.2
  exact floordiv_int (by omega) (by rw [Int.fdiv_eq_ediv_of_nonneg i (by omega)]; exact q) (.inl (PyProof.noPylong_small (by omega)))
theorem op_mod : OpR X (binaryOp .Mod) (rI (fun _ j => 0 < j) fun i j => .int (i % j)) := opI fun i j _ _ _ _ _ hc q => by
  have h1 : (0 : Int) < j := hc
  exact mod_int' (by omega) (by rw [Int.fmod_eq_emod_of_nonneg i (by omega)]; exact q)
theorem op_shl : OpR X (binaryOp .LShift) (rI CPow fun i j => .int (i * 2 ^ j.toNat)) := opI fun _ _ _ _ _ _ _ hc q => lshift_int_small hc.1 hc.2.1 hc.2.2 q
theorem op_shr : OpR X (binaryOp .RShift) (rI (fun _ j => 0 ≤ j) fun i j => .int (i / 2 ^ j.toNat)) := opI fun i j _ _ _ _ _ hc q =>
  rshift_int hc (by rw [Int.fdiv_eq_ediv_of_nonneg i (two_pow_nn _)]; exact q)
theorem op_and : OpR X (binaryOp .BitAnd) (rI0 fun i j => .int (Builtin.bitAnd i j)) := opI0 fun _ _ _ _ _ _ _ q => and_int q
theorem op_or : OpR X (binaryOp .BitOr) (rI0 fun i j => .int (Builtin.bitOr i j)) := opI0 fun _ _ _ _ _ _ _ q => or_int q
theorem iop_mul : OpR X (inplaceOp .Mult) (rI CMul fun i j => .int (i * j)) := opI fun _ _ _ _ _ _ _ hc q => imul_int q hc.ok
theorem unI {f : Value → Sem Value} {g : Int → Int}
    (rule : ∀ (i : Int) (t : Tok) (s : Shared) (Q : Value → Shared → Prop) (E : Value → Shared → Prop), Q (.int (g i) s.toks) { s with toks := s.toks + 1 } → wpAny (model X.prog X.w) X.A (f (.int i t)) Q E s) :
    UnR X f (rU fun i => .int (g i)) := by
  intro pins s σ H x v Q I rx h
  obtain ⟨i, rfl, q⟩ := h
  obtain ⟨t, rfl⟩ := rx
  exact rule i t s _ _ ⟨.int (g i), H, I.tok _, ⟨_, rfl⟩, q⟩
theorem un_neg : UnR X (unaryOp .USub) (rU fun i => .int (-i)) := unI fun _ _ _ _ _ q => neg_int q
end
def scal : V → V → Bool
  | .non, .non => true | .non, .int _ => true | .int _, .non => true | .non, .bl _ => true | .bl _, .non => true | .non, .str _ => true | .str _, .non => true
  | .int _, .int _ => true | .bl _, .bl _ => true | .str _, .str _ => true | .byt _, .byt _ => true
  | .int _, .str _ => true | .str _, .int _ => true | .bl _, .str _ => true | .str _, .bl _ => true
  | _, _ => false
def rEq : R2 := fun x y H Q => scal x y = true ∧ Q (.bl (decide (x = y))) H
def rNe : R2 := fun x y H Q => scal x y = true ∧ Q (.bl (!decide (x = y))) H
theorem dec_int {i j : Int} : decide (V.int i = V.int j) = (i == j) := by
  rw [Bool.eq_iff_iff]
  simp
theorem dec_bl {i j : Bool} : decide (V.bl i = V.bl j) = (i == j) := by
  rw [Bool.eq_iff_iff]
  simp
theorem dec_str {i j : Str} : decide (V.str i = V.str j) = (i == j) := by
  rw [Bool.eq_iff_iff]
  simp
theorem dec_byt {i j : Array UInt8} : decide (V.byt i = V.byt j) = (i.toList == j.toList) := by
  rw [Bool.eq_iff_iff]
  cases i
  cases j
  simp
section
variable {X : Cx} {a b c : Expr} {ta tb tc : TE} {pos : Pos}
theorem fin_bl {pins : List (Addr × Obj)} {σ : St} {H : Hp} {s : Shared} {Q : VK} {k k' : Bool} (I : Inv X pins σ H s) (q : Q (.bl k) H) (e : k = k') : EP X pins σ Q (.bool k') s := by
  subst e
  exact ⟨.bl k, H, I, rfl, q⟩
theorem op_eq : OpR X (compareOp .Eq) rEq := by
  intro pins s σ H x y v u Q I rx ry h
  obtain ⟨hs, q⟩ := h
  cases x with
  | non =>
    cases rx
    cases y with
    | non => cases ry; exact PySem.EqNone.eq_none_none (fin_bl I q (by simp))
    | bl j => cases ry; exact PySem.EqNone.eq_none_bool (fin_bl I q (by simp))
    | int j => obtain ⟨t', rfl⟩ := ry; exact PySem.EqNone.eq_none_int (fin_bl I q (by simp))
    | str j => obtain ⟨t', rfl⟩ := ry; exact PySem.EqNone.eq_none_str (fin_bl I q (by simp))
    | _ => exact absurd (show false = true from hs) Bool.false_ne_true
  | bl i =>
    cases rx
    cases y with
    | non => cases ry; exact PySem.EqNone.eq_bool_none (fin_bl I q (by simp))
    | bl j => cases ry; exact eq_bool (fin_bl I q dec_bl)
    | str j => obtain ⟨t', rfl⟩ := ry; exact PySem.EqMixed.eq_bool_str (fin_bl I q (by simp))
    | _ => exact absurd (show false = true from hs) Bool.false_ne_true
  | int i =>
    obtain ⟨t, rfl⟩ := rx
    cases y with
    | non => cases ry; exact PySem.EqNone.eq_int_none (fin_bl I q (by simp))
    | int j => obtain ⟨t', rfl⟩ := ry; exact eq_int (fin_bl I q dec_int)
    | str j => obtain ⟨t', rfl⟩ := ry; exact PySem.EqMixed.eq_int_str (fin_bl I q (by simp))
    | _ => exact absurd (show false = true from hs) Bool.false_ne_true
  | str i =>
    obtain ⟨t, rfl⟩ := rx
    cases y with
    | non => cases ry; exact PySem.EqNone.eq_str_none (fin_bl I q (by simp))
    | bl j => cases ry; exact PySem.EqMixed.eq_str_bool (fin_bl I q (by simp))
    | int j => obtain ⟨t', rfl⟩ := ry; exact PySem.EqMixed.eq_str_int (fin_bl I q (by simp))
    | str j => obtain ⟨t', rfl⟩ := ry; exact eq_str (fin_bl I q dec_str)
    | _ => exact absurd (show false = true from hs) Bool.false_ne_true
  | byt i =>
    obtain ⟨t, rfl⟩ := rx
    cases y with
    | byt j => obtain ⟨t', rfl⟩ := ry; exact PySem.W.eq_bytes (fin_bl I q dec_byt)
    | _ => exact absurd (show false = true from hs) Bool.false_ne_true
  | _ => cases y <;> exact absurd (show false = true from hs) Bool.false_ne_true
theorem op_ne : OpR X (compareOp .NotEq) rNe := by
  intro pins s σ H x y v u Q I rx ry h
  obtain ⟨hs, q⟩ := h
  cases x with
  | non =>
    cases rx
    cases y with
    | non => cases ry; exact PySem.EqNone.ne_none_none (fin_bl I q (by simp))
    | bl j => cases ry; exact PySem.EqNone.ne_none_bool (fin_bl I q (by simp))
    | int j => obtain ⟨t', rfl⟩ := ry; exact PySem.EqNone.ne_none_int (fin_bl I q (by simp))
    | str j => obtain ⟨t', rfl⟩ := ry; exact PySem.EqNone.ne_none_str (fin_bl I q (by simp))
    | _ => exact absurd (show false = true from hs) Bool.false_ne_true
  | bl i =>
    cases rx
    cases y with
    | non => cases ry; exact PySem.EqNone.ne_bool_none (fin_bl I q (by simp))
    | bl j => cases ry; exact ne_bool (fin_bl I q (congrArg not dec_bl))
    | str j => obtain ⟨t', rfl⟩ := ry; exact PySem.EqMixed.ne_bool_str (fin_bl I q (by simp))
    | _ => exact absurd (show false = true from hs) Bool.false_ne_true
  | int i =>
    obtain ⟨t, rfl⟩ := rx
    cases y with
    | non => cases ry; exact PySem.EqNone.ne_int_none (fin_bl I q (by simp))
    | int j => obtain ⟨t', rfl⟩ := ry; exact ne_int (fin_bl I q (congrArg not dec_int))
    | str j => obtain ⟨t', rfl⟩ := ry; exact PySem.EqMixed.ne_int_str (fin_bl I q (by simp))
    | _ => exact absurd (show false = true from hs) Bool.false_ne_true
  | str i =>
    obtain ⟨t, rfl⟩ := rx
    cases y with
    | non => cases ry; exact PySem.EqNone.ne_str_none (fin_bl I q (by simp))
    | bl j => cases ry; exact PySem.EqMixed.ne_str_bool (fin_bl I q (by simp))
    | int j => obtain ⟨t', rfl⟩ := ry; exact PySem.EqMixed.ne_str_int (fin_bl I q (by simp))
    | str j => obtain ⟨t', rfl⟩ := ry; exact ne_str (fin_bl I q (congrArg not dec_str))
    | _ => exact absurd (show false = true from hs) Bool.false_ne_true
  | byt i =>
    obtain ⟨t, rfl⟩ := rx
    cases y with
    | byt j => obtain ⟨t', rfl⟩ := ry; exact PySem.W.ne_bytes (fin_bl I q (congrArg not dec_byt))
    | _ => exact absurd (show false = true from hs) Bool.false_ne_true
  | _ => cases y <;> exact absurd (show false = true from hs) Bool.false_ne_true
theorem op_lt : OpR X (compareOp .Lt) (rI0 fun i j => .bl (decide (i < j))) := opB0 fun _ _ _ _ _ _ _ q => lt_int q
theorem op_le : OpR X (compareOp .LtE) (rI0 fun i j => .bl (decide (i ≤ j))) := opB0 fun _ _ _ _ _ _ _ q => le_int q
theorem op_gt : OpR X (compareOp .Gt) (rI0 fun i j => .bl (decide (j < i))) := opB0 fun _ _ _ _ _ _ _ q => gt_int q
theorem op_ge : OpR X (compareOp .GtE) (rI0 fun i j => .bl (decide (j ≤ i))) := opB0 fun _ _ _ _ _ _ _ q => ge_int q
theorem nomark (b : Expr) {op : CmpOp} (h : op ≠ .In := by decide) (h2 : op ≠ .NotIn := by decide) : behindInMarks op b = false := by
  have e1 : (op == CmpOp.In) = false := by cases op <;> first | rfl | exact absurd rfl h
  have e2 : (op == CmpOp.NotIn) = false := by cases op <;> first | rfl | exact absurd rfl h2
  cases b <;> simp [behindInMarks, e1, e2]
theorem pe_cmpR {op : CmpOp} {r : R2} (ho : OpR X (compareOp op) r) (ha : PE X a ta) (hb : PE X b tb) (hm : behindInMarks op b = false) : PE X (.Compare a [op] [b] pos) (tOp r ta tb) := by
  intro pins s σ H Q I h
  exact wpAny_Compare1 (binT ha hb I h fun v u s2 x y H2 I2 rx ry q => ho pins s2 σ H2 x y v u Q I2 rx ry q) hm
def tTest (t : TE) : TT := fun σ H Q => t σ H fun x H' => ∃ k, x = .bl k ∧ Q k H'
theorem pt_cmpR {op : CmpOp} {r : R2} (ho : OpR X (compareOp op) r) (ha : PE X a ta) (hb : PE X b tb) (hm : behindInMarks op b = false) : PT X (.Compare a [op] [b] pos) (tTest (tOp r ta tb)) := by
  intro pins s σ H Q I h
  refine wpAny_isTrue_Compare1 (thn (ha pins s σ H _ I h) fun v s1 ⟨x, H1, I1, r1, q1⟩ => thn (hb pins s1 σ H1 _ I1 q1) fun u s2 ⟨y, H2, I2, r2, q2⟩ =>
    thn (ho pins s2 σ H2 x y v u _ I2 r1 r2 q2) fun c s3 ⟨z, H3, I3, r3, k, e, q3⟩ => ?_) hm
  subst e
  cases r3
  exact wpAny_truthy_bool ⟨H3, I3, q3⟩
def tChain (r r' : R2) (ta tb tc : TE) : TE := fun σ H Q => ta σ H fun x H1 => tb σ H1 fun y H2 => r x y H2 fun z H3 => ∃ k, z = .bl k ∧
  (if k = true then tc σ H3 fun w' H4 => r' y w' H4 Q else Q (.bl false) H3)
theorem pe_chain {op op' : CmpOp} {r r' : R2} (ho : OpR X (compareOp op) r) (ho' : OpR X (compareOp op') r') (ha : PE X a ta) (hb : PE X b tb) (hc : PE X c tc)
    (hm : lastMarks [op, op'] [b, c] = false := by with_unfolding_all rfl) : PE X (.Compare a [op, op'] [b, c] pos) (tChain r r' ta tb tc) := by
  intro pins s σ H Q I h
  refine Compare_chain (thn (ha pins s σ H _ I h) fun v s1 ⟨x, H1, I1, r1, q1⟩ => chain_link (thn (hb pins s1 σ H1 _ I1 q1) fun u s2 ⟨y, H2, I2, r2, q2⟩ =>
    thn (ho pins s2 σ H2 x y v u _ I2 r1 r2 q2) fun d s3 ⟨z, H3, I3, r3, k, e, q3⟩ => ?_)) hm
  subst e
  cases r3
  refine wpAny_truthy_bool ?_
  cases k with
  | false => exact ite_ff ⟨.bl false, H3, I3, rfl, q3⟩
  | true => exact ite_tt (chain_last (thn (hc pins s3 σ H3 _ I3 q3) fun w' s4 ⟨z', H4, I4, r4, q4⟩ => ho' pins s4 σ H4 y z' u w' Q I4 r2 r4 q4))
theorem pt_chain {op op' : CmpOp} {r r' : R2} (ho : OpR X (compareOp op) r) (ho' : OpR X (compareOp op') r') (ha : PE X a ta) (hb : PE X b tb) (hc : PE X c tc)
    (hm : lastMarks [op, op'] [b, c] = false := by with_unfolding_all rfl) : PT X (.Compare a [op, op'] [b, c] pos) (tTest (tChain r r' ta tb tc)) := by
  intro pins s σ H Q I h
  refine isTrue_chain (thn (ha pins s σ H _ I h) fun v s1 ⟨x, H1, I1, r1, q1⟩ => test_link (thn (hb pins s1 σ H1 _ I1 q1) fun u s2 ⟨y, H2, I2, r2, q2⟩ =>
    thn (ho pins s2 σ H2 x y v u _ I2 r1 r2 q2) fun d s3 ⟨z, H3, I3, r3, k, e, q3⟩ => ?_)) hm
  subst e
  cases r3
  refine wpAny_truthy_bool ?_
  cases k with
  | false =>
    obtain ⟨k', e', q'⟩ := q3
    cases e'
    exact ite_ff ⟨H3, I3, q'⟩
  | true =>
    refine ite_tt (test_last (thn (hc pins s3 σ H3 _ I3 q3) fun w' s4 ⟨z', H4, I4, r4, q4⟩ => thn (ho' pins s4 σ H4 y z' u w' _ I4 r2 r4 q4) fun d' s5 ⟨z2, H5, I5, r5, k2, e2, q5⟩ => ?_))
    subst e2
    cases r5
    exact wpAny_truthy_bool ⟨H5, I5, q5⟩
def TruV (K : PySem.W.Frag) (x : V) (H : Hp) (k : Bool) : Prop :=
  match x with
  | .non => k = false
  | .bl b => k = b
  | .int i => k = (i != 0)
  | .str y => y.length ≤ sizeLine ∧ k = ((y.length : Int) != 0)
  | .byt y => y.size ≤ sizeLine ∧ k = ((y.size : Int) != 0)
  | .ref p => (∃ xs, SqL K H p xs ∧ k = !xs.isEmpty) ∨ (∃ xs, SqT K H p xs ∧ k = !xs.isEmpty) ∨ ∃ kvs, H p = some (.dK kvs) ∧ k = !kvs.isEmpty
  | _ => False
theorem isEmpty_kv {κ : Type} {kvs : List (κ × V)} {vs : List (κ × Value)} (r : KV kvs vs) : (!vs.isEmpty) = !kvs.isEmpty := by
  cases r <;> rfl
theorem isEmpty_of {xs : List V} {its : List Value} (r : Vals xs its) : (!its.toArray.isEmpty) = !xs.isEmpty := by
  cases r <;> simp
theorem line63 : (sizeLine : Nat) < 2 ^ 63 := by rw [sizeLine_eq]; decide
theorem tru_ok : TruR X (fun x H Q => ∃ k, TruV X.K x H k ∧ Q k H) := by
  intro pins s σ H x v Q I rx h
  obtain ⟨k, e, q⟩ := h
  have hl := line63
  have hs : sizeLine = 16777216 := sizeLine_eq
  cases x with
  | non =>
    cases rx
    have e' : k = false := e
    subst e'
    exact truthy_none ⟨H, I, q⟩
  | bl b =>
    cases rx
    have e' : k = b := e
    subst e'
    exact wpAny_truthy_bool ⟨H, I, q⟩
  | int i =>
    obtain ⟨t, rfl⟩ := rx
    have e' : k = (i != 0) := e
    subst e'
    exact PySem.P.truthy_int ⟨H, I, q⟩
  | str y =>
    obtain ⟨t, rfl⟩ := rx
    obtain ⟨hy, e'⟩ : y.length ≤ sizeLine ∧ k = ((y.length : Int) != 0) := e
    subst e'
    exact PySem.P.truthy_str (by omega) ⟨H, I.tok _, q⟩
  | byt y =>
    obtain ⟨t, rfl⟩ := rx
    obtain ⟨hy, e'⟩ : y.size ≤ sizeLine ∧ k = ((y.size : Int) != 0) := e
    subst e'
    exact PySem.W.truthy_bytes (by omega) ⟨H, I.tok _, q⟩
  | ref p =>
    cases rx
    have e' : (∃ xs, SqL X.K H p xs ∧ k = !xs.isEmpty) ∨ (∃ xs, SqT X.K H p xs ∧ k = !xs.isEmpty) ∨ ∃ kvs, H p = some (.dK kvs) ∧ k = !kvs.isEmpty := e
    rcases e' with ⟨xs, hx, e'⟩ | ⟨xs, hx, e'⟩ | ⟨kvs, hx, e'⟩
    · subst e'
      obtain ⟨its, r, pl, hz⟩ := I.list hx
      have hlen := r.length
      exact wpAny_truthy_list pl.isList (by simp only [List.size_toArray]; omega) ⟨H, I.tok _, by rw [isEmpty_of r]; exact q⟩
    · subst e'
      obtain ⟨its, r, pl, hz⟩ := I.tuple hx
      have hlen := r.length
      exact truthy_tuple pl (by simp only [List.size_toArray]; omega) ⟨H, I.tok _, by rw [isEmpty_of r]; exact q⟩
    · subst e'
      obtain ⟨hz, hS, vs, r, m⟩ : kvs.length ≤ sizeLine ∧ (p == sysModules) = false ∧ ∃ vs, KV kvs vs ∧ s.heap.DictOf (mixKind X.prog X.w) p vs := I.hok p _ hx
      have hlen : kvs.length = vs.length := Paired.length r
      exact wpAny_truthy_dict hS m (by omega) ⟨H, I.tok _, by rw [isEmpty_kv r]; exact q⟩
  | _ => exact (show False from e).elim
theorem pt_truth (ha : PE X a ta) (he : ∀ whole, isTrue a X.env whole = (do let v ← whole; standAt a.pos; holding [v] (truthy v))) :
    PT X a (fun σ H Q => ta σ H fun x H' => ∃ k, TruV X.K x H' k ∧ Q k H') := by
  intro pins s σ H Q I h
  exact isTrue_plain (thn (ha pins s σ H _ I h) fun v s1 ⟨x, H1, I1, r1, q1⟩ => tru_ok pins s1 σ H1 x v Q I1 r1 q1) (he _)
theorem vals1 {x : V} {us : List Value} (r : Vals [x] us) : ∃ u, us = [u] ∧ RelV x u := by
  cases r with
  | cons r1 r2 => cases r2; exact ⟨_, rfl, r1⟩
theorem vals2 {x y : V} {us : List Value} (r : Vals [x, y] us) : ∃ u w', us = [u, w'] ∧ RelV x u ∧ RelV y w' := by
  cases r with
  | cons r1 r2 =>
    cases r2 with
    | cons r3 r4 => cases r4; exact ⟨_, _, rfl, r1, r3⟩
theorem call_min2 (hc : X.calm = true) : CallR X (.builtin "min") (fun xs H Q => ∃ i j, xs = [.int i, .int j] ∧ Q (.int (if j < i then j else i)) H) := by
  intro pins s σ H xs us Q I r h
  obtain ⟨i, j, rfl, q⟩ := h
  obtain ⟨u, w', rfl, ⟨t, rfl⟩, ⟨t', rfl⟩⟩ := vals2 r
  refine min_two_ints (I.ok.hd hc) fun h' tk k => ⟨_, H, I.kept k, ?_, q⟩
  by_cases hj : j < i
  · rw [if_pos hj, if_pos hj]; exact ⟨_, rfl⟩
  · rw [if_neg hj, if_neg hj]; exact ⟨_, rfl⟩
end
end L2
namespace L2
open PySem PySem.Spec PyProof.Rows
structure ObjM (h : Heap) (x dx C : Addr) (mA : Str → Option Value) : Prop where
  obj : h.get? x = some (PySem.W.instObj C dx)
  ns : h.Ns1 dx mA
  ne : dx ≠ x
theorem lookIn_ns {h : Heap} {dx : Addr} {mA : Str → Option Value} (n : h.Ns1 dx mA) : ∃ od, h.get? dx = some od ∧ ∀ name, PySem.W.lookIn name od = some (mA name) := by
  obtain ⟨o, es, ep, ho, hd, hk, _, hm⟩ := n
  refine ⟨o, ho, fun name => ?_⟩
  have e := hm name
  unfold nsFind findBy at e
  rw [← Array.find?_toList] at e
  unfold PySem.W.lookIn
  rw [hd]
  dsimp only
  split
  · rename_i y q
    rw [q] at e
    exact congrArg some e
  · rename_i q
    rw [q] at e
    have a : es.toList.any (·.refKey) = false := by
      rw [List.any_eq_false]
      intro y hy
      obtain ⟨z, t, hkey⟩ := hk y (Array.mem_toList_iff.mp hy)
      simp [DictEntry.refKey, hkey]
    have a' : ¬ es.toList.any (·.refKey) = true := by rw [a]; exact Bool.false_ne_true
    rw [if_neg a']
    exact congrArg some e
theorem ObjM.look {h : Heap} {x dx C : Addr} {mA : Str → Option Value} (I : ObjM h x dx C mA) : ∃ od, PySem.W.InstAt h x (PySem.W.instObj C dx) C (some od) ∧ ∀ name, PySem.W.lookIn name od = some (mA name) :=
  let ⟨od, ho, hl⟩ := lookIn_ns I.ns
  ⟨od, ⟨I.obj, rfl, rfl, ho⟩, hl⟩
section
variable {prog : Program} {w : World} {A : Around} {E : Value → Shared → Prop} {s : Shared} {K : PySem.W.Frag} {x dx C f : Addr} {mA : Str → Option Value} {name : Str} {v : Value}
theorem get_map {expr : Bool} {Q : Value → Shared → Prop} (X : K.In s.heap) (I : ObjM s.heap x dx C mA) (hg : PySem.W.plainGet K C name = true) (hh : PySem.W.hasDictIn K C = true)
    (ha : PySem.W.findIn K (.ref C) name = some none) (hv : mA name = some v) (hv' : PySem.W.handedIn v = true) (h : Q v { s with toks := s.toks + 1 }) :
    wpAny (model prog w) A (getAttr (.ref x) name expr) Q E s := by
  obtain ⟨od, J, hl⟩ := I.look
  exact PySem.W.get_value X J (PySem.W.plainGet_of hg).1 (PySem.W.findObj_own hh ha rfl (by rw [hl, hv])) hv' h
theorem get_meth {pl : Sem Bool} {Q : Value × List Value → Shared → Prop} (X : K.In s.heap) (I : ObjM s.heap x dx C mA) (hg : PySem.W.plainGet K C name = true)
    (hf : PySem.W.findIn K (.ref C) name = some (some (.ref f))) (ht : PySem.W.isFn K (.ref f) = true) (hv : mA name = none) (h : Q (.ref f, [.ref x]) s) :
    wpAny (model prog w) A (getMethod (.ref x) name pl) Q E s := by
  obtain ⟨od, J, hl⟩ := I.look
  exact PySem.W.method_fn X J (PySem.W.plainGet_of hg).1 (PySem.W.plainGet_of hg).2 hf (beq_iff_eq.mp ht) (by show (PySem.W.lookIn name od).map (·.isSome) = some false; rw [hl, hv]; rfl) h
theorem set_map {ns : List Str} {Q : Unit → Shared → Prop} (X : K.In s.heap) (I : ObjM s.heap x dx C mA)
    (hs : PySem.W.findIn K (.ref C) "__setattr__" = some (some (.builtin "object.__setattr__"))) (hp : PySem.W.plainOver K C = true) (ht : PySem.W.takerIn K C name = some none) (hh : PySem.W.hasDictIn K C = true)
    (hw : PySem.Within mA ns) (hsz : ns.length ≤ sizeLine)
    (h : ∀ h', ObjM h' x dx C (fun y => if y = name then some v else mA y) → Heap.SameBut dx s.heap h' → Q () { s with heap := h', toks := s.toks + 2 }) :
    wpAny (model prog w) A (setAttr (.ref x) name v) Q E s := by
  obtain ⟨od, J, hl⟩ := I.look
  refine PySem.W.set_plain X J hs (PySem.W.osa_open (s := { s with toks := s.toks + 1 }) (r := none) X J hp ht fun b => ?_)
  obtain ⟨cd, hc, hd'⟩ := PySem.W.any_some hh
  have hx : s.heap.get? x = some ⟨.ref C, some dx, .plain, #[]⟩ := I.obj
  refine wpAny_bind (wpAny_pure (wpAny_bind (wpAny_bind (wpAny_loadPart hx (wpAny_bind (PySem.W.Looks.here (s := { s with toks := s.toks + 1 }) (PySem.W.looks_clsIn X hc) ?_))))))
  rw [hd']
  refine wpAny_pure (a := some dx) (wpAny_bind (wpAny_pure (wpAny_bind ?_)))
  refine wpAny_nsSet1 (s := { s with toks := s.toks + 1 }) I.ns fun h' hn2 hs2 => ?_
  obtain ⟨oD, esD, epD, hoD, hdD, hcD⟩ := hn2.count (PySem.Within.cons name v hw)
  refine wpAny_bind (wpAny_lookBehind hoD (by rw [hdD]; exact pastItsLine_dict (Nat.le_trans hcD (by rw [List.length_cons]; omega))) ?_)
  exact wpAny_pure (h _ ⟨(hs2.2 _ (Ne.symm I.ne)).trans I.obj, hn2, I.ne⟩ hs2)
theorem make_map {R : Result → Shared → Prop} {vs : List Value} {kw : List (Str × Value)} (X : K.In s.heap) (hm : PySem.W.makesIn K C = true)
    (hi : PySem.W.findIn K (.ref C) "__init__" = some (some (.ref f))) (hf : PySem.W.typeIn K (.ref f) = some (.type "function"))
    (h : codeAny (model prog w) (A.under (.builtin "type.__call__" ⟨.ref C :: vs, kw⟩)) (.call (.ref f) ⟨.ref (s.heap.objs.size + 1) :: vs, kw⟩) (PySem.W.InitBack (s.heap.objs.size + 1) R)
      { s with heap := (s.heap.push PySem.W.emptyDict).push (PySem.W.instObj C s.heap.objs.size) }) :
    codeAny (model prog w) A (.call (.ref C) ⟨vs, kw⟩) R s := by
  obtain ⟨hh, g, d, t, os⟩ := s
  exact PySem.W.make_core (PySem.W.makes_of X hm) (PySem.W.looks_findIn X hi) (fun self => PySem.W.bind_fn X self hf) (.inl rfl) h
end
def putF (f : Str) (v : V) : List (Str × V) → List (Str × V)
  | [] => [(f, v)]
  | (g, x) :: r => if g = f then (g, v) :: r else (g, x) :: putF f v r
theorem lookup_putF (f g : Str) (v : V) : ∀ fs : List (Str × V), (putF f v fs).lookup g = if g = f then some v else fs.lookup g
  | [] => by
    show List.lookup g [(f, v)] = _
    by_cases h : g = f
    · have hb : (g == f) = true := beq_iff_eq.mpr h
      simp only [List.lookup, hb, if_pos h]
    · have hb : (g == f) = false := beq_eq_false_iff_ne.mpr h
      simp only [List.lookup, hb, if_neg h]
  | (k, x) :: r => by
    have ih := lookup_putF f g v r
    rw [show putF f v ((k, x) :: r) = (if k = f then (k, v) :: r else (k, x) :: putF f v r) from rfl]
    by_cases hk : k = f
    · rw [if_pos hk]
      by_cases h : g = k
      · have hb : (g == k) = true := beq_iff_eq.mpr h
        simp only [List.lookup, hb, if_pos (h.trans hk)]
      · have hb : (g == k) = false := beq_eq_false_iff_ne.mpr h
        simp only [List.lookup, hb, if_neg (fun e : g = f => h (e.trans hk.symm))]
    · rw [if_neg hk]
      by_cases h : g = k
      · have hb : (g == k) = true := beq_iff_eq.mpr h
        simp only [List.lookup, hb, if_neg (fun e : g = f => hk (h.symm.trans e))]
      · have hb : (g == k) = false := beq_eq_false_iff_ne.mpr h
        simp only [List.lookup, hb]
        exact ih
theorem keys_putF (f : Str) (v : V) : ∀ fs : List (Str × V), f ∈ (putF f v fs).map (·.1) ∧ ∀ g, g ∈ fs.map (·.1) → g ∈ (putF f v fs).map (·.1)
  | [] => ⟨by simp [putF], fun g h => by simp at h⟩
  | (k, x) :: r => by
    obtain ⟨i1, i2⟩ := keys_putF f v r
    rw [show putF f v ((k, x) :: r) = (if k = f then (k, v) :: r else (k, x) :: putF f v r) from rfl]
    by_cases hk : k = f
    · rw [if_pos hk]
      subst hk
      exact ⟨by simp, fun g h => by simpa using h⟩
    · rw [if_neg hk]
      refine ⟨?_, fun g h => ?_⟩
      · rw [List.map_cons]
        exact List.mem_cons_of_mem _ i1
      · rw [List.map_cons] at h ⊢
        rcases List.mem_cons.mp h with e | e
        · exact List.mem_cons.mpr (.inl e)
        · exact List.mem_cons_of_mem _ (i2 g e)
theorem length_putF (f : Str) (v : V) : ∀ fs : List (Str × V), (putF f v fs).length ≤ fs.length + 1
  | [] => by simp [putF]
  | (k, x) :: r => by
    have ih := length_putF f v r
    rw [show putF f v ((k, x) :: r) = (if k = f then (k, v) :: r else (k, x) :: putF f v r) from rfl]
    by_cases hk : k = f
    · rw [if_pos hk, List.length_cons, List.length_cons]; omega
    · rw [if_neg hk, List.length_cons, List.length_cons]; omega
theorem RelO.some_of {v : V} {o : Option Value} (r : RelO (some v) o) : ∃ u, o = some u ∧ RelV v u := by
  cases o with
  | none => exact (show False from r).elim
  | some u => exact ⟨u, rfl, r⟩
theorem RelO.none_of {o : Option Value} (r : RelO none o) : o = none := by
  cases o with
  | none => rfl
  | some u => exact (show False from r).elim
theorem handed_of {v : V} {u : Value} (r : RelV v u) : PySem.W.handedIn u = true := by
  cases v with
  | non => cases (show u = Value.none from r); rfl
  | bl b => cases (show u = Value.bool b from r); rfl
  | int i => obtain ⟨t, e⟩ := (show ∃ t, u = Value.int i t from r); cases e; rfl
  | str x => obtain ⟨t, e⟩ := (show ∃ t, u = Value.str x t from r); cases e; rfl
  | byt b => obtain ⟨t, e⟩ := (show ∃ t, u = Value.bytes b t from r); cases e; rfl
  | flt b => obtain ⟨t, e⟩ := (show ∃ t, u = Value.float b t from r); cases e; rfl
  | ref a => cases (show u = Value.ref a from r); rfl
  | ty n => cases (show u = Value.type n from r); rfl
section
variable {P : Program} {w : World} {H H' : Hp} {h h' : Heap} {a C dx : Addr} {fs fs' : List (Str × V)}
theorem ins_get (hok : HOk P w H h) (e : H a = some (.ins C dx fs)) : ∃ mA, ObjM h a dx C mA ∧ (∀ f, RelO (fs.lookup f) (mA f)) ∧ PySem.Within mA (fs.map (·.1)) ∧ fs.length ≤ 1000 ∧ H dx = some (.own a) := by
  obtain ⟨d, z, ne, ob, mA, n, r, q⟩ := (show ObjOk P w H h a (.ins C dx fs) from hok a _ e)
  exact ⟨mA, ⟨ob, n, ne⟩, r, q, z, d⟩
end
structure Cls (K : PySem.W.Frag) (C : Addr) : Prop where
  pg : PySem.W.plainGet K C Str.empty = true
  hd : PySem.W.hasDictIn K C = true
  po : PySem.W.plainOver K C = true
  sa : PySem.W.findIn K (.ref C) "__setattr__" = some (some (.builtin "object.__setattr__"))
theorem Cls.get {K : PySem.W.Frag} {C : Addr} (c : Cls K C) (f : Str) : PySem.W.plainGet K C f = true := c.pg
def NoAttr (K : PySem.W.Frag) (C : Addr) (f : Str) : Prop := PySem.W.findIn K (.ref C) f = some none
theorem NoAttr.taker {K : PySem.W.Frag} {C : Addr} {f : Str} (n : NoAttr K C f) : PySem.W.takerIn K C f = some none := by
  unfold PySem.W.takerIn
  rw [show PySem.W.findIn K (.ref C) f = some none from n]
  rfl
structure Meth (K : PySem.W.Frag) (C : Addr) (m : Str) (f : Addr) : Prop where
  at_ : PySem.W.findIn K (.ref C) m = some (some (.ref f))
  fn : PySem.W.isFn K (.ref f) = true
  kp : PySem.W.keepIn K (.ref f) = true
section
variable {X : Cx} {pins : List (Addr × Obj)} {σ : St} {H : Hp} {s : Shared} {a C dx : Addr} {fs : List (Str × V)} {f : Str} {v : V} {A : Around} {E : Value → Shared → Prop}
theorem getattr_ok {b : Bool} {Q : Value → Shared → Prop} (I : Inv X pins σ H s) (e : H a = some (.ins C dx fs)) (c : Cls X.K C) (n : NoAttr X.K C f) (l : fs.lookup f = some v)
    (h : ∀ u s', Inv X pins σ H s' → RelV v u → Q u s') : wpAny (model X.prog X.w) A (getAttr (.ref a) f b) Q E s := by
  obtain ⟨mA, O, r, _, _, _⟩ := ins_get I.hok e
  obtain ⟨u, hu, ru⟩ := RelO.some_of (v := v) (o := mA f) (by rw [← l]; exact r f)
  exact get_map I.kIn O (c.get f) c.hd n hu (handed_of ru) (h u _ (I.tok _) ru)
theorem getmeth_ok {m : Str} {g : Addr} {pl : Sem Bool} {Q : Value × List Value → Shared → Prop} (I : Inv X pins σ H s) (e : H a = some (.ins C dx fs)) (c : Cls X.K C) (k : Meth X.K C m g) (l : fs.lookup m = none)
    (h : Q (.ref g, [.ref a]) s) : wpAny (model X.prog X.w) A (getMethod (.ref a) m pl) Q E s := by
  obtain ⟨mA, O, r, _, _, _⟩ := ins_get I.hok e
  have hn : mA m = none := RelO.none_of (by rw [← l]; exact r m)
  exact get_meth I.kIn O (c.get m) k.at_ k.fn hn h
theorem setattr_ok {y : V} {u : Value} {Q : Unit → Shared → Prop} (I : Inv X pins σ H s) (e : H a = some (.ins C dx fs)) (c : Cls X.K C) (n : NoAttr X.K C f) (hl : fs.length < 1000) (ry : RelV y u)
    (h : ∀ s', Inv X pins σ (upd H a (.ins C dx (putF f y fs))) s' → Q () s') : wpAny (model X.prog X.w) A (setAttr (.ref a) f u) Q E s := by
  obtain ⟨mA, O, r, wi, _, ho⟩ := ins_get I.hok e
  have hz : (fs.map (·.1)).length ≤ sizeLine := by rw [List.length_map, sizeLine_eq]; omega
  refine set_map I.kIn O c.sa c.po n.taker c.hd wi hz fun h' O' sb => h _ ?_
  have hd : ∃ o, h'.get? dx = some o := let ⟨o, _, _, e', _⟩ := O'.ns; ⟨o, e'⟩
  refine I.write (x := a) (e := dx) (by rw [e]; exact True.intro) (.inr ho) (fun b q hb z => (sb.2 b hb).trans z) hd ?_
  refine ⟨by rw [upd_ne O.ne]; exact ho, ?_, O.ne, O'.obj, _, O'.ns, fun g => ?_, fun g hg => ?_⟩
  · have := length_putF f y fs; omega
  · show RelO ((putF f y fs).lookup g) (if g = f then some u else mA g)
    rw [lookup_putF]
    by_cases q : g = f
    · rw [if_pos q, if_pos q]; exact ry
    · rw [if_neg q, if_neg q]; exact r g
  · by_cases q : g = f
    · rw [q]; exact (keys_putF f y fs).1
    · refine (keys_putF f y fs).2 g (wi g fun z => hg ?_)
      show (if g = f then some u else mA g) = none
      rw [if_neg q]; exact z
theorem Inv.made (I : Inv X pins σ H s) : Inv X pins σ (upd (upd H s.heap.objs.size (.own (s.heap.objs.size + 1))) (s.heap.objs.size + 1) (.ins C s.heap.objs.size []))
    { s with heap := (s.heap.push PySem.W.emptyDict).push (PySem.W.instObj C s.heap.objs.size) } := by
  have e1 : (s.heap.push PySem.W.emptyDict).get? s.heap.objs.size = some PySem.W.emptyDict := Heap.get?_push_size s.heap rfl
  have e2 : ((s.heap.push PySem.W.emptyDict).push (PySem.W.instObj C s.heap.objs.size)).get? (s.heap.objs.size + 1) = some (PySem.W.instObj C s.heap.objs.size) := by
    have := Heap.get?_push_size (s.heap.push PySem.W.emptyDict) (o := PySem.W.instObj C s.heap.objs.size) rfl
    rwa [Heap.size_push] at this
  have e3 : (s.heap.push PySem.W.emptyDict).Ns s.heap.objs.size (fun _ => none) := ⟨PySem.W.emptyDict, #[], _, e1, rfl, (fun e he => absurd he (by simp)), fun _ => rfl⟩
  have I1 := I.laid (a := s.heap.objs.size) (o := .own (s.heap.objs.size + 1)) (h' := s.heap.push PySem.W.emptyDict) (t' := s.toks) (fun b u q => Heap.get?_push_of_some _ q) (Nat.le_refl _) ⟨_, e1⟩
  refine I1.laid (a := s.heap.objs.size + 1) (o := .ins C s.heap.objs.size []) (t' := s.toks) (fun b u q => Heap.get?_push_of_some _ q) (Nat.le_of_eq (Heap.size_push _ _)) ?_
  have ne : s.heap.objs.size ≠ s.heap.objs.size + 1 := Nat.ne_of_lt (Nat.lt_succ_self _)
  refine ⟨by rw [upd_ne ne, upd_same], Nat.zero_le _, ne, e2, fun _ => none, (Heap.Ns1.of_empty e3).at fun o q => Heap.get?_push_of_some _ q, fun _ => True.intro, fun y hy => absurd rfl hy⟩
theorem attr_of {prog : Program} {w : World} {env : Env} {e : Expr} {f : Str} {pos : Pos} {s : Shared} {Q : Value → Shared → Prop} (hb : attributeBase e f env (eval e env) = eval e env)
    (h : wpAny (model prog w) A (eval e env) (fun o s₁ => wpAny (model prog w) A (getAttr o f true) Q E s₁) E s) : wpAny (model prog w) A (eval (.Attribute e f pos) env) Q E s :=
  Attribute_any_ h (by rw [arm_eval_Attribute, hb])
end
def tFld (K : PySem.W.Frag) (ta : TE) (f : Str) : TE := fun σ H Q => ta σ H fun x H1 => ∃ a C dx fs v, x = .ref a ∧ H1 a = some (.ins C dx fs) ∧ Cls K C ∧ NoAttr K C f ∧ fs.lookup f = some v ∧ Q v H1
def sFld (K : PySem.W.Frag) (ta tv : TE) (f : Str) : TS := fun D σ H => tv σ H fun y H1 => ta σ H1 fun x H2 => ∃ a C dx fs, x = .ref a ∧ H2 a = some (.ins C dx fs) ∧ Cls K C ∧ NoAttr K C f ∧ fs.length < 1000 ∧
  D.nx σ (upd H2 a (.ins C dx (putF f y fs)))
def InOp (X : Cx) (op : Operator) (rd : V → V → Hp → VK → Prop) : Prop :=
  ∀ (pins : List (Addr × Obj)) (s : Shared) (σ : St) (H : Hp) (x y : V) (u v : Value) (Q : VK), Inv X pins σ H s → RelV x u → RelV y v → rd x y H Q → wpAny (model X.prog X.w) X.A (inplaceOp op u v) (EP X pins σ Q) X.xe s
def sFldAug (K : PySem.W.Frag) (ta tv : TE) (rd : V → V → Hp → VK → Prop) (f : Str) : TS := fun D σ H => ta σ H fun x H1 => ∃ a C dx fs v, x = .ref a ∧ H1 a = some (.ins C dx fs) ∧ Cls K C ∧ NoAttr K C f ∧ fs.lookup f = some v ∧
  tv σ H1 fun y H2 => rd v y H2 fun z H3 => ∃ dx' fs', H3 a = some (.ins C dx' fs') ∧ fs'.length < 1000 ∧ D.nx σ (upd H3 a (.ins C dx' (putF f z fs')))
section
variable {X : Cx} {o e value : Expr} {f : Str} {pos pos' tpos : Pos} {ta tv : TE}
theorem pe_fld (he : PE X e ta) (hb : attributeBase e f X.env (eval e X.env) = eval e X.env) : PE X (.Attribute e f pos) (tFld X.K ta f) := by
  intro pins s σ H Q I h
  refine attr_of hb (thn (he pins s σ H _ I h) fun u s1 ⟨x, H1, I1, rx, a, C, dx, fs, v, ex, ea, c, n, l, q⟩ => ?_)
  subst ex
  obtain rfl : u = Value.ref a := rx
  exact getattr_ok I1 ea c n l fun u' s2 I2 ru => ⟨v, H1, I2, ru, q⟩
theorem ps_fld (ha : PE X o ta) (hv : PE X value tv) (hs : swapsWith value (some (.Attribute o f pos')) pos.line X.env = pure false) : PS X (.Assign [.Attribute o f pos'] value pos) (sFld X.K ta tv f) := by
  intro pins s σ H D I h
  refine plainObj_wpAny_Assign_Attribute (thn (hv pins s σ H _ I h) fun u s1 ⟨y, H1, I1, ry, q⟩ => thn (ha pins s1 σ H1 _ I1 q) fun ov s2 ⟨x, H2, I2, rx, a, C, dx, fs, ex, ea, c, n, l, q2⟩ => ?_) hs
  subst ex
  obtain rfl : ov = Value.ref a := rx
  exact setattr_ok I2 ea c n l ry fun s3 I3 => ⟨σ, _, I3, q2⟩
theorem ps_fldaug {op : Operator} {rd : V → V → Hp → VK → Prop} (ha : PE X o ta) (hv : PE X value tv) (hop : InOp X op rd) : PS X (.AugAssign (.Attribute o f tpos) op value pos) (sFldAug X.K ta tv rd f) := by
  intro pins s σ H D I h
  refine wpAny_AugAssign_AttributeAny (thn (ha pins s σ H _ I h) fun ov s1 ⟨x, H1, I1, rx, a, C, dx, fs, v, ex, ea, c, n, l, q⟩ => ?_)
  subst ex
  obtain rfl : ov = Value.ref a := rx
  refine getattr_ok I1 ea c n l fun u s2 I2 ru => thn (hv pins s2 σ H1 _ I2 q) fun w3 s3 ⟨y, H2, I3, ry, q3⟩ => thn (hop pins s3 σ H2 v y u w3 _ I3 ru ry q3) fun w4 s4 ⟨z, H3, I4, rz, dx', fs', ea', l', q4⟩ => ?_
  exact setattr_ok I4 ea' c n l' rz fun s5 I5 => ⟨σ, _, I5, q4⟩
def rAdd : V → V → Hp → VK → Prop := fun x y H Q => ∃ i j, x = .int i ∧ y = .int j ∧ Q (.int (i + j)) H
def rSub : V → V → Hp → VK → Prop := fun x y H Q => ∃ i j, x = .int i ∧ y = .int j ∧ Q (.int (i - j)) H
theorem in_add : InOp X .Add rAdd := by
  rintro pins s σ H x y u v Q I rx ry ⟨i, j, rfl, rfl, q⟩
  obtain ⟨t, rfl⟩ := (show ∃ t, u = Value.int i t from rx)
  obtain ⟨t', rfl⟩ := (show ∃ t', v = Value.int j t' from ry)
  exact PyProof.Rows.iadd_int ⟨.int (i + j), H, I.tok _, ⟨_, rfl⟩, q⟩
theorem in_sub : InOp X .Sub rSub := by
  rintro pins s σ H x y u v Q I rx ry ⟨i, j, rfl, rfl, q⟩
  obtain ⟨t, rfl⟩ := (show ∃ t, u = Value.int i t from rx)
  obtain ⟨t', rfl⟩ := (show ∃ t', v = Value.int j t' from ry)
  exact PyProof.Rows.isub_int ⟨.int (i - j), H, I.tok _, ⟨_, rfl⟩, q⟩
end
section
variable {X : Cx} {pins : List (Addr × Obj)} {σ : St} {H : Hp} {s : Shared} {A : Around} {E : Value → Shared → Prop} {Q : Value → Shared → Prop} {c : Value} {b : Bool}
end
end L2
namespace L2
open PySem PySem.Spec PyProof.Rows
structure Room (k : Nat) (A : Around) : Prop where
  hd : A.handled = none
  dp : A.depth + 3 * k + 5 < recursionLimit
  un : A.units + 16 * k + 200 < cLine
theorem Room.mono {j k : Nat} {A : Around} (r : Room k A) (h : j ≤ k) : Room j A := ⟨r.hd, by have := r.dp; omega, by have := r.un; omega⟩
theorem Room.deeper {k : Nat} {A : Around} (r : Room (k + 1) A) (env : Env) : Room k (A.deeper env) :=
  ⟨r.hd, by have := r.dp; show A.depth + 1 + 3 * k + 5 < _; omega, by have := r.un; show A.units + 3 + 16 * k + 200 < _; omega⟩
theorem make_depth {A : Around} {C : Addr} {us : List Value} {kw : List (Str × Value)} : (A.under (.builtin "type.__call__" ⟨.ref C :: us, kw⟩)).depth = A.depth + 1 := by
  first | rfl | simp [Around.under, Code.weight, Code.isCreation, Code.isGuard, Code.isCaller, Code.frames, Code.isFrame, guardIds]
theorem make_units {A : Around} {C : Addr} {us : List Value} {kw : List (Str × Value)} : (A.under (.builtin "type.__call__" ⟨.ref C :: us, kw⟩)).units = A.units + 1 := by
  first | rfl | simp [Around.under, Code.cUnits, Code.frames, Code.isFrame]
theorem Room.make {k : Nat} {A : Around} (r : Room (k + 1) A) (C : Addr) (us : List Value) (kw : List (Str × Value)) : Room k (A.under (.builtin "type.__call__" ⟨.ref C :: us, kw⟩)) :=
  ⟨r.hd, by have := r.dp; rw [make_depth]; omega, by have := r.un; rw [make_units]; omega⟩
theorem Room.depth {k : Nat} {A : Around} (r : Room k A) : A.depth < recursionLimit := by have := r.dp; omega
def tNil : TA := fun _ H Q => Q [] H
def tCons (ta : TE) (tr : TA) : TA := fun σ H Q => ta σ H fun x H1 => tr σ H1 fun xs H2 => Q (x :: xs) H2
section
variable {X : Cx} {e : Expr} {es : List Expr} {te : TE} {t : TA} {pos : Pos}
theorem pa_nil : PA X [] tNil := fun _ _ _ _ H Q I h => Calls.spliced_nil ⟨[], H, I, .nil, h⟩
theorem pa_cons (ha : PE X e te) (hr : PA X es t) (hs : starEach (e :: es) X.env = (false, eval e X.env) :: starEach es X.env := by rfl) : PA X (e :: es) (tCons te t) := by
  intro pos pins s σ H Q I h
  rw [hs]
  show wpAny _ _ (spliced ((false, eval e X.env) :: backTo pos (starEach es X.env))) _ _ s
  refine Calls.spliced_cons (thn (ha pins s σ H _ I h) fun u s1 ⟨x, H1, I1, r1, q1⟩ => ?_)
  exact thn (hr pos pins s1 σ H1 _ I1 q1) fun us s2 ⟨xs, H2, I2, r2, q2⟩ => ⟨x :: xs, H2, I2, .cons r1 r2, q2⟩
def tLst (t : TA) : TE := fun σ H Q => t σ H fun xs H1 => xs.length ≤ sizeLine ∧ ∀ p, H1 p = none → Q (.ref p) (upd H1 p (.lst xs))
theorem pe_lst (h : PA X es t) : PE X (.List es pos) (tLst t) := by
  intro pins s σ H Q I hq
  refine wpAny_List_spliced (thn (h pos pins s σ H _ I hq) fun us s1 ⟨xs, H1, I1, r, z, q⟩ => ⟨by rw [← r.length]; exact z, ?_⟩)
  have hf : H1 s1.heap.objs.size = none := I1.hok.fresh (Nat.le_refl _)
  refine ⟨.ref s1.heap.objs.size, upd H1 s1.heap.objs.size (.lst xs), I1.laid (t' := s1.toks) (fun b u e => Heap.get?_push_of_some _ e) (Nat.le_refl _) ?_, rfl, q _ hf⟩
  exact ⟨z, us, 0, r, Heap.get?_push_size _ rfl⟩
end
abbrev Sp := List V → Hp → VK → XK → Prop
abbrev CXT := List Env → Hp → Shared → XK → Value → Shared → Prop
structure Env0 (P : Program) (w : World) (K : PySem.W.Frag) (mg : Str → Option Value) (base : Heap) (A : Around) (outer : List Env) (s : Shared) (H : Hp) : Prop where
  frames : A.frames = some outer
  mod : Mod K mg base
  bs : ∀ b o, base.get? b = some o → s.heap.get? b = some o ∧ H b = none
  bsz : base.objs.size ≤ s.heap.objs.size
  funs : s.heap.FunFrames base outer
  frf : ∀ b ∈ frs outer, H b = none
  hok : HOk P w H s.heap
  bare : AllBare s.gens
def CE (outer : List Env) (P : Program) (w : World) (H : Hp) (s : Shared) (Q : VK) (u : Value) (s' : Shared) : Prop :=
  ∃ v H', s'.os = s.os ∧ AllBare s'.gens ∧ Un (frs outer) [] H H' s.heap s'.heap ∧ HOk P w H' s'.heap ∧ RelV v u ∧ Q v H'
def CR (CX : CXT) (outer : List Env) (P : Program) (w : World) (H : Hp) (s : Shared) (Q : VK) (E : XK) (r : Result) (s' : Shared) : Prop :=
  match r with
  | .ok (.ret u) => CE outer P w H s Q u s'
  | .ok _ => False
  | .error e => CX outer H s E e s'
structure FnOk (P : Program) (w : World) (K : PySem.W.Frag) (mg : Str → Option Value) (base : Heap) (CX : CXT) (k : Nat) (f : Addr) (fd : FuncData) (ps : List Str) (sp : Sp) : Prop where
  len : ∀ vs H Q E, sp vs H Q E → vs.length = ps.length
  run : ∀ (A : Around) (outer : List Env) (s : Shared) (H : Hp) (args : Args) (us : List Value) (vs : List V) (Q : VK) (E : XK), Room k A → Env0 P w K mg base A outer s H → BindsTo s fd args (ps.zip us) → Vals vs us → sp vs H Q E →
    codeAny (model P w) A (.call (.ref f) args) (CR CX outer P w H s Q E) s
theorem Env0.make {P : Program} {w : World} {K : PySem.W.Frag} {mg : Str → Option Value} {base : Heap} {A : Around} {outer : List Env} {s : Shared} {H : Hp} (e : Env0 P w K mg base A outer s H) (C : Addr) (us : List Value) (kw : List (Str × Value)) :
    Env0 P w K mg base (A.under (.builtin "type.__call__" ⟨.ref C :: us, kw⟩)) outer s H := ⟨by first | exact e.frames | (simpa [Around.under, Code.envs, Code.isFrame, pushEnvs] using e.frames), e.mod, e.bs, e.bsz, e.funs, e.frf, e.hok, e.bare⟩
section
variable {X : Cx} {pins : List (Addr × Obj)} {σ : St} {H : Hp} {s s' : Shared}
theorem Inv.env0 (I : Inv X pins σ H s) : Env0 X.prog X.w X.K X.mg X.base X.A X.stack s H :=
  ⟨I.ok.frames, I.ok.mod, I.bs, Nat.le_trans I.ok.bsz I.sz, I.stack, I.stkFree, I.hok, I.bare⟩
theorem Inv.after {Q : VK} {u : Value} (I : Inv X pins σ H s) (h : CE X.stack X.prog X.w H s Q u s') : EP X pins σ Q u s' := by
  obtain ⟨v, H', os, bare, un, hok, r, q⟩ := h
  obtain ⟨hh, g, d, t, os'⟩ := s'
  obtain rfl : os' = s.os := os
  exact ⟨v, H', I.call (h' := hh) (g' := g) (d' := d) (t' := t) (ch := []) un hok bare (fun b z => absurd z (by simp)), r, q⟩
end
def tCall (sp : Sp) (dvs : List V) (E : XK) (t : TA) : TE := fun σ H Q => t σ H fun vs H1 => sp (vs ++ dvs) H1 Q E
def tMeth (C : Addr) (m : Str) (sp : Sp) (dvs : List V) (E : XK) (ta : TE) (t : TA) : TE := fun σ H Q => ta σ H fun x H1 => ∃ a dx fs, x = .ref a ∧ H1 a = some (.ins C dx fs) ∧ fs.lookup m = none ∧
  t σ H1 fun vs H2 => sp (x :: (vs ++ dvs)) H2 Q E
def tMake (C : Addr) (sp : Sp) (dvs : List V) (E : XK) (t : TA) : TE := fun σ H Q => t σ H fun vs H1 => ∀ x dx, H1 x = none → H1 dx = none → dx ≠ x →
  sp (.ref x :: (vs ++ dvs)) (upd (upd H1 dx (.own x)) x (.ins C dx [])) (fun v H2 => v = .non ∧ Q (.ref x) H2) E
def Binds (K : PySem.W.Frag) (fd : FuncData) (ps : List Str) (ds : List Value) : Prop :=
  ∀ (s : Shared) (us : List Value), K.In s.heap → (us ++ ds).length = ps.length → BindsTo s fd ⟨us, []⟩ (ps.zip (us ++ ds))
theorem Binds.all {K : PySem.W.Frag} {fd : FuncData} {ps : List Str} (h : ∀ us : List Value, us.length = ps.length → bindArgs fd ⟨us, []⟩ = pure (ps.zip us)) : Binds K fd ps [] := fun s us _ hl => by
  rw [List.append_nil] at hl ⊢
  exact .of_eq (h us hl)
def Passes (CX : CXT) (X : Cx) (E : XK) : Prop := ∀ (pins : List (Addr × Obj)) (σ : St) (H : Hp) (s : Shared) (e : Value) (s' : Shared), Inv X pins σ H s → CX X.stack H s E e s' → X.xe e s'
section
variable {X : Cx} {CX : CXT} {k : Nat} {f C : Addr} {fd : FuncData} {ps : List Str} {sp : Sp} {dvs : List V} {ds : List Value} {E : XK} {x m : Str} {p pos apos : Pos} {e o : Expr} {es : List Expr} {ta : TE} {t : TA}
theorem run_fn {pins : List (Addr × Obj)} {σ : St} {H : Hp} {s : Shared} {Q : VK} {us : List Value} {vs : List V} (F : FnOk X.prog X.w X.K X.mg X.base CX k f fd ps sp) (hr : Room k X.A) (hb : Binds X.K fd ps ds) (hd : Vals dvs ds) (hx : Passes CX X E)
    (I : Inv X pins σ H s) (r : Vals vs us) (h : sp (vs ++ dvs) H Q E) : wpAny (model X.prog X.w) X.A (call (.ref f) us) (EP X pins σ Q) X.xe s := by
  have r2 : Vals (vs ++ dvs) (us ++ ds) := r.append hd
  have hl : (us ++ ds).length = ps.length := by rw [← r2.length]; exact F.len _ _ _ _ h
  refine wpAny_call (codeAny_mono (F.run X.A X.stack s H ⟨us, []⟩ (us ++ ds) (vs ++ dvs) Q E hr I.env0 (hb s us I.kIn hl) r2 h) fun r s' hq => ?_)
  cases r with
  | error e => exact hx pins σ H s e s' I hq
  | ok fl =>
    cases fl with
    | ret u => exact I.after hq
    | next => exact False.elim hq
    | brk => exact False.elim hq
    | cont => exact False.elim hq
theorem pe_call (F : FnOk X.prog X.w X.K X.mg X.base CX k f fd ps sp) (hr : Room k X.A) (hg : Gl X x) (hm : X.mg x = some (.ref f)) (hk : PySem.W.keepIn X.K (.ref f) = true) (hb : Binds X.K fd ps ds) (hd : Vals dvs ds) (hx : Passes CX X E)
    (ha : PA X (e :: es) t) (hdb : (x == ("__debug__" : Str)) = false := by decide) (he : starEach (e :: es) X.env = (false, eval e X.env) :: starEach es X.env := by rfl) (hpl : (backTo pos (starEach es X.env)).any (·.1) = false := by rfl) :
    PE X (.Call (.Name x p) (e :: es) [] pos) (tCall sp dvs E t) := by
  intro pins s σ H Q I h
  refine wpAny_Call_Name_kw (ld_glob I hg hm ?_ hdb)
  refine PySem.W.callWith_K (h₀ := X.base) I.ok.mod.kin hk (thn (ha pos pins s σ H _ I h) fun us s1 ⟨vs, H1, I1, r, q⟩ => ⟨I1.kIn, ?_⟩) he hpl
  exact run_fn F hr hb hd hx I1 r q
theorem pe_call0 (F : FnOk X.prog X.w X.K X.mg X.base CX k f fd ps sp) (hr : Room k X.A) (hg : Gl X x) (hm : X.mg x = some (.ref f)) (hk : PySem.W.keepIn X.K (.ref f) = true) (hb : Binds X.K fd ps ds) (hd : Vals dvs ds) (hx : Passes CX X E)
    (hdb : (x == ("__debug__" : Str)) = false := by decide) : PE X (.Call (.Name x p) [] [] pos) (tCall sp dvs E tNil) := by
  intro pins s σ H Q I h
  refine wpAny_Call_Name_kw (ld_glob I hg hm ?_ hdb)
  exact PySem.W.callWith_K0 I.kIn hk (run_fn (us := []) F hr hb hd hx I .nil h)
theorem pe_meth {pl : Sem Bool} (he : PE X o ta) (c : Cls X.K C) (hm : Meth X.K C m f) (F : FnOk X.prog X.w X.K X.mg X.base CX k f fd ps sp) (hr : Room k X.A) (hb : Binds X.K fd ps ds) (hd : Vals dvs ds) (hx : Passes CX X E) (ha : PA X (e :: es) t)
    (hst : starEach (e :: es) X.env = (false, eval e X.env) :: starEach es X.env := by rfl) (hpl : (backTo pos (starEach es X.env)).any (·.1) = false := by rfl)
    (ht : eval (.Call (.Attribute o m apos) (e :: es) [] pos) X.env = (do
      let ov ← eval o X.env
      standAt apos.atName
      let (f, first) ← holding [ov] (getMethod ov m pl)
      callWith pos f first (backTo pos (starEach (e :: es) X.env)) (backToKw pos (keywordEach [] X.env))) := by rfl) :
    PE X (.Call (.Attribute o m apos) (e :: es) [] pos) (tMeth C m sp dvs E ta t) := by
  intro pins s σ H Q I h
  refine PySem.W.methodCall_KW (pl := pl) (thn (he pins s σ H _ I h) fun u s1 ⟨x, H1, I1, rx, a, dx, fs, ex, ea, l, q⟩ => ?_) ht
  subst ex
  obtain rfl : u = Value.ref a := rx
  refine getmeth_ok I1 ea c hm l ?_
  refine PySem.W.callWith_K (first := [.ref a]) (h₀ := X.base) I.ok.mod.kin hm.kp (thn (ha pos pins s1 σ H1 _ I1 q) fun us s2 ⟨vs, H2, I2, r, q2⟩ => ⟨I2.kIn, ?_⟩) hst hpl
  exact run_fn (us := .ref a :: us) (vs := .ref a :: vs) F hr hb hd hx I2 (.cons rfl r) q2
theorem pe_meth0 {pl : Sem Bool} (he : PE X o ta) (c : Cls X.K C) (hm : Meth X.K C m f) (F : FnOk X.prog X.w X.K X.mg X.base CX k f fd ps sp) (hr : Room k X.A) (hb : Binds X.K fd ps ds) (hd : Vals dvs ds) (hx : Passes CX X E)
    (ht : eval (.Call (.Attribute o m apos) [] [] pos) X.env = (do
      let ov ← eval o X.env
      standAt apos.atName
      let (f, first) ← holding [ov] (getMethod ov m pl)
      callWith pos f first (backTo pos (starEach [] X.env)) (backToKw pos (keywordEach [] X.env))) := by rfl) :
    PE X (.Call (.Attribute o m apos) [] [] pos) (tMeth C m sp dvs E ta tNil) := by
  intro pins s σ H Q I h
  refine PySem.W.methodCall_KW (pl := pl) (thn (he pins s σ H _ I h) fun u s1 ⟨x, H1, I1, rx, a, dx, fs, ex, ea, l, q⟩ => ?_) ht
  subst ex
  obtain rfl : u = Value.ref a := rx
  refine getmeth_ok I1 ea c hm l ?_
  exact PySem.W.callWith_K0 (first := [.ref a]) I1.kIn hm.kp (run_fn (us := [.ref a]) (vs := [.ref a]) F hr hb hd hx I1 (.cons rfl .nil) q)
structure Mk (K : PySem.W.Frag) (C f : Addr) : Prop where
  makes : PySem.W.makesIn K C = true
  init : PySem.W.findIn K (.ref C) "__init__" = some (some (.ref f))
  fn : PySem.W.isFn K (.ref f) = true
  kp : PySem.W.keepIn K (.ref C) = true
theorem run_make {pins : List (Addr × Obj)} {σ : St} {H : Hp} {s : Shared} {Q : VK} {us : List Value} {vs : List V} (M : Mk X.K C f) (F : FnOk X.prog X.w X.K X.mg X.base CX k f fd ps sp) (hr : Room (k + 1) X.A) (hb : Binds X.K fd ps ds) (hd : Vals dvs ds)
    (hx : Passes CX X E) (I : Inv X pins σ H s) (r : Vals vs us)
    (h : ∀ x dx, H x = none → H dx = none → dx ≠ x → sp (.ref x :: (vs ++ dvs)) (upd (upd H dx (.own x)) x (.ins C dx [])) (fun v H2 => v = .non ∧ Q (.ref x) H2) E) :
    wpAny (model X.prog X.w) X.A (call (.ref C) us) (EP X pins σ Q) X.xe s := by
  have hq := h (s.heap.objs.size + 1) s.heap.objs.size (I.hok.fresh (Nat.le_succ _)) (I.hok.fresh (Nat.le_refl _)) (Nat.ne_of_lt (Nat.lt_succ_self _))
  have I2 := Inv.made (C := C) I
  have r2 : Vals (V.ref (s.heap.objs.size + 1) :: (vs ++ dvs)) (Value.ref (s.heap.objs.size + 1) :: (us ++ ds)) := .cons rfl (r.append hd)
  have hl : (Value.ref (s.heap.objs.size + 1) :: us ++ ds).length = ps.length := by
    have e := r2.length
    rw [F.len _ _ _ _ hq] at e
    exact e.symm
  refine wpAny_call (make_map (f := f) I.kIn M.makes M.init (beq_iff_eq.mp M.fn) (codeAny_mono (F.run _ X.stack _ _ ⟨Value.ref (s.heap.objs.size + 1) :: us, []⟩ (Value.ref (s.heap.objs.size + 1) :: (us ++ ds)) _ _ E (hr.make C us [])
    (I2.env0.make C us []) (hb _ (Value.ref (s.heap.objs.size + 1) :: us) I2.kIn hl) r2 hq) fun r s' hq' => ?_))
  cases r with
  | error e => exact hx pins σ _ _ e s' I2 hq'
  | ok fl =>
    cases fl with
    | ret u =>
      obtain ⟨v, H', I3, rv, ev, q3⟩ := I2.after hq'
      subst ev
      exact ⟨rv, ⟨V.ref (s.heap.objs.size + 1), H', I3, rfl, q3⟩⟩
    | next => exact False.elim hq'
    | brk => exact False.elim hq'
    | cont => exact False.elim hq'
theorem pe_make (M : Mk X.K C f) (F : FnOk X.prog X.w X.K X.mg X.base CX k f fd ps sp) (hr : Room (k + 1) X.A) (hg : Gl X x) (hm : X.mg x = some (.ref C)) (hb : Binds X.K fd ps ds) (hd : Vals dvs ds) (hx : Passes CX X E)
    (ha : PA X (e :: es) t) (hdb : (x == ("__debug__" : Str)) = false := by decide) (he : starEach (e :: es) X.env = (false, eval e X.env) :: starEach es X.env := by rfl) (hpl : (backTo pos (starEach es X.env)).any (·.1) = false := by rfl) :
    PE X (.Call (.Name x p) (e :: es) [] pos) (tMake C sp dvs E t) := by
  intro pins s σ H Q I h
  refine wpAny_Call_Name_kw (ld_glob I hg hm ?_ hdb)
  refine PySem.W.callWith_K (h₀ := X.base) I.ok.mod.kin M.kp (thn (ha pos pins s σ H _ I h) fun us s1 ⟨vs, H1, I1, r, q⟩ => ⟨I1.kIn, ?_⟩) he hpl
  exact run_make M F hr hb hd hx I1 r q
theorem pe_make0 (M : Mk X.K C f) (F : FnOk X.prog X.w X.K X.mg X.base CX k f fd ps sp) (hr : Room (k + 1) X.A) (hg : Gl X x) (hm : X.mg x = some (.ref C)) (hb : Binds X.K fd ps ds) (hd : Vals dvs ds) (hx : Passes CX X E)
    (hdb : (x == ("__debug__" : Str)) = false := by decide) : PE X (.Call (.Name x p) [] [] pos) (tMake C sp dvs E tNil) := by
  intro pins s σ H Q I h
  refine wpAny_Call_Name_kw (ld_glob I hg hm ?_ hdb)
  exact PySem.W.callWith_K0 I.kIn M.kp (run_make (us := []) M F hr hb hd hx I .nil h)
end
section
variable {X : Cx} {CX : CXT} {k : Nat} {f C : Addr} {fd : FuncData} {ps ks : List Str} {sp : Sp} {E : XK} {x m : Str} {p pos apos kpos : Pos} {e o : Expr} {es : List Expr} {kws : List Keyword} {te ta : TE} {t tk : TA} {nm : Option Str}
variable {g : List Value → List Value → List Value} {gV : List V → List V → List V}
end
structure FnScope (N P : List Str) (sc : Scope) : Prop where
  kind : sc.kind = .function
  co : sc.isCoroutine = false
  gen : sc.isGenerator = false
  nd : N.Nodup
  pre : N.take P.length = P
  par : ∀ x ∈ P, sc.names.lookup x = some .local ∨ sc.names.lookup x = some .cell
  nofree : ∀ y ∈ sc.names, y.2 ≠ .free
theorem bindL_out {kindOf : Str → Option NameKind} {x : Str} : ∀ {binds : List (Str × Value)} {m : Str → Option Value}, (∀ v, (x, v) ∉ binds) → bindL kindOf binds m x = m x
  | [], _, _ => rfl
  | (n, v) :: r, m, h => by
    unfold bindL
    rw [bindL_out fun w hw => h w (List.mem_cons_of_mem _ hw)]
    split
    · have : x ≠ n := by rintro rfl; exact h v List.mem_cons_self
      simp [this]
    · rfl
theorem bindC_out {kindOf : Str → Option NameKind} {x : Str} : ∀ {binds : List (Str × Value)} {m : Str → Option Value}, (∀ v, (x, v) ∉ binds) → bindC kindOf binds m x = m x
  | [], _, _ => rfl
  | (n, v) :: r, m, h => by
    unfold bindC
    rw [bindC_out fun w hw => h w (List.mem_cons_of_mem _ hw)]
    split
    · rfl
    · have : x ≠ n := by rintro rfl; exact h v List.mem_cons_self
      simp [this]
theorem bindL_get {kindOf : Str → Option NameKind} {x : Str} {v : Value} : ∀ {P : List Str} {vs : List Value} {i : Nat} {m : Str → Option Value}, P.Nodup → P[i]? = some x → vs[i]? = some v → kindOf x = some .local →
    bindL kindOf (P.zip vs) m x = some v
  | [], _, _, _, _, h, _, _ => by simp at h
  | _ :: _, [], _, _, _, _, h, _ => by simp at h
  | p :: P, w :: vs, 0, m, nd, h1, h2, hk => by
    simp at h1 h2; subst h1; subst h2
    show bindL kindOf ((p, w) :: P.zip vs) m p = _
    unfold bindL
    rw [bindL_out fun v hv => (List.nodup_cons.mp nd).1 (List.of_mem_zip hv).1, if_pos hk]
    simp
  | p :: P, w :: vs, i + 1, m, nd, h1, h2, hk => by
    show bindL kindOf ((p, w) :: P.zip vs) m x = _
    unfold bindL
    exact bindL_get (i := i) (List.nodup_cons.mp nd).2 (by simpa using h1) (by simpa using h2) hk
theorem bindC_get {kindOf : Str → Option NameKind} {x : Str} {v : Value} : ∀ {P : List Str} {vs : List Value} {i : Nat} {m : Str → Option Value}, P.Nodup → P[i]? = some x → vs[i]? = some v → kindOf x ≠ some .local →
    bindC kindOf (P.zip vs) m x = some v
  | [], _, _, _, _, h, _, _ => by simp at h
  | _ :: _, [], _, _, _, _, h, _ => by simp at h
  | p :: P, w :: vs, 0, m, nd, h1, h2, hk => by
    simp at h1 h2; subst h1; subst h2
    show bindC kindOf ((p, w) :: P.zip vs) m p = _
    unfold bindC
    rw [bindC_out fun v hv => (List.nodup_cons.mp nd).1 (List.of_mem_zip hv).1, if_neg hk]
    simp
  | p :: P, w :: vs, i + 1, m, nd, h1, h2, hk => by
    show bindC kindOf ((p, w) :: P.zip vs) m x = _
    unfold bindC
    exact bindC_get (i := i) (List.nodup_cons.mp nd).2 (by simpa using h1) (by simpa using h2) hk
def start (N : List Str) (vs : List V) : St := vs.map some ++ List.replicate (N.length - vs.length) none
def cxOf (CX : CXT) (P : Program) (w : World) (K : PySem.W.Frag) (mg : Str → Option Value) (base : Heap) (N : List Str) (qual : Str) (scope : Scope) (f : Addr) (cd : Value) (A : Around) (outer : List Env) (s : Shared) (H : Hp) (E : XK) : Cx where
  prog := P
  w := w
  K := K
  mg := mg
  base := base
  A := A.deeper (envOfC qual scope s.heap.objs.size f cd)
  N := N
  s_0 := s
  H_0 := H
  env := envOfC qual scope s.heap.objs.size f cd
  outer := outer
  stack := envOfC qual scope s.heap.objs.size f cd :: outer
  ex := []
  calm := true
  fn := fun _ => true
  pn := []
  xe := fun e s' => wpAny (model P w) (A.deeper (envOfC qual scope s.heap.objs.size f cd)) (leaving (envOfC qual scope s.heap.objs.size f cd) e) (fun _ s'' => CX outer H s E e s'') (fun e' s'' => CX outer H s E e' s'') s'
theorem cell_has {sc : Scope} {n : Nat} {x : Str} (h : sc.names.lookup x = some .cell) : ∃ c, (cellsFrom n sc.names []).lookup x = some c := by
  have q := PySem.W.cellsFrom_some sc.names n [] (.inl h)
  exact Option.isSome_iff_exists.mp q
theorem inv_start {CX : CXT} {P : Program} {w : World} {K : PySem.W.Frag} {mg : Str → Option Value} {base : Heap} {N ps : List Str} {qual : Str} {scope : Scope} {f : Addr} {cd : Value} {A : Around} {outer : List Env} {s s1 : Shared} {H : Hp} {E : XK} {us : List Value} {vs : List V}
    (S : FnScope N ps scope) (hd : A.handled = none) (e0 : Env0 P w K mg base A outer s H) (hl : vs.length = ps.length) (r : Vals vs us)
    (x : InCallC s s.heap.objs.size (bindL (envOfC qual scope s.heap.objs.size f cd).kindOf (ps.zip us) fun _ => none) (cellsFrom (s.heap.objs.size + 1) scope.names []) (bindC (envOfC qual scope s.heap.objs.size f cd).kindOf (ps.zip us) fun _ => none) s1) :
    Inv (cxOf CX P w K mg base N qual scope f cd A outer s H E) [] (start N vs) H s1 := by
  have hpl : ps.length ≤ N.length := by have := congrArg List.length S.pre; rw [List.length_take] at this; omega
  obtain ⟨h1, tk, rfl, hk⟩ := x.done
  have noA : ∀ b : Addr, b ∉ (cxOf CX P w K mg base N qual scope f cd A outer s H E).ex := fun b z => absurd (show b ∈ ([] : List Addr) from z) (by simp)
  refine ⟨⟨e0.mod, S.kind, rfl, rfl, Nat.le_refl _, fun y z c h1 h2 => ?_, fun y hy => ?_, fun y c _ h => ?_, fun _ => hd, Around.frames_deeper e0.frames, .inr ⟨rfl, rfl⟩, fun b z => absurd z (noA b), e0.bs, e0.bsz, fun b _ _ => noA b, fun b z => absurd z (noA b), e0.funs, e0.frf⟩,
    rfl, e0.bare, Un.kept hk, ⟨_, x.toInCall.ns, fun i y v h1 h2 h3 => ?_⟩, fun y c h => ⟨_, x.cell y c h⟩, e0.hok.fresh (Nat.le_refl _), fun y c h => ?_, fun p hp => absurd (show p ∈ ([] : List (Addr × Obj)) from hp) (by simp), e0.hok.kept hk, ?_⟩
  · exact name_of_addr x.apart (PySem.mem_of_lookup h1) (PySem.mem_of_lookup h2)
  · have hy : scope.names.lookup y = some .cell ∨ scope.names.lookup y = some .free := hy
    rcases hy with hy | hy
    · exact cell_has hy
    · exact absurd rfl (S.nofree _ (PySem.mem_of_lookup hy))
  · exact Nat.le_of_lt (x.above y c (PySem.mem_of_lookup h))
  · have hi : i < vs.length := by
      unfold start at h2
      by_cases hi : i < vs.length
      · exact hi
      · rw [List.getElem?_append_right (by simpa using hi)] at h2
        rw [List.getElem?_replicate] at h2
        split at h2 <;> cases h2
    have ha : vs[i]? = some v := by
      unfold start at h2
      rw [List.getElem?_append_left (by simpa using hi), List.getElem?_map] at h2
      cases e : vs[i]? with
      | none => rw [e] at h2; cases h2
      | some a => rw [e] at h2; cases h2; rfl
    obtain ⟨u, hu, rv⟩ := r.get ha
    have hp : ps[i]? = some y := by
      rw [← S.pre, List.getElem?_take_of_lt (by omega)]; exact h1
    have ndP : ps.Nodup := by rw [← S.pre]; exact S.nd.sublist (List.take_sublist _ _)
    refine ⟨u, rv, ?_⟩
    rcases S.par y (List.mem_of_getElem? hp) with k | k
    · exact .inl ⟨k, bindL_get ndP hp hu k⟩
    · obtain ⟨c, e⟩ := cell_has (n := s.heap.objs.size + 1) k
      refine .inr ⟨.inl k, c, e, ?_⟩
      have q := x.cell y c e
      rw [bindC_get ndP hp hu (by show scope.names.lookup y ≠ _; rw [k]; decide)] at q
      exact q
  · exact e0.hok.fresh (Nat.le_of_lt (x.above y c (PySem.mem_of_lookup h)))
  · unfold start
    show _ = N.length
    rw [List.length_append, List.length_map, List.length_replicate]
    omega
theorem fn_of {CX : CXT} {P : Program} {w : World} {K : PySem.W.Frag} {mg : Str → Option Value} {base : Heap} {k : Nat} {f : Addr} {name qual : Str} {params : Arguments} {body : List Stmt} {scope : Scope} {dV kV doc pm cdv ct oc : Value} {an od : Option Addr}
    {osl : Array (Option Value)} {N ps : List Str} {sp : Sp} (lk : K.lookup f = some ⟨oc, od, .func (PySem.W.fnOf name qual params body scope dV kV doc pm an cdv ct), osl⟩) (hcd : PySem.W.codeIn K cdv qual = true) (S : FnScope N ps scope)
    (len : ∀ vs H Q E, sp vs H Q E → vs.length = ps.length)
    (hbody : ∀ (A : Around) (outer : List Env) (s : Shared) (H : Hp) (vs : List V) (Q : VK) (E : XK), Room k (A.deeper (envOfC qual scope s.heap.objs.size f cdv)) → sp vs H Q E →
      ∃ t, PSs (cxOf CX P w K mg base N qual scope f cdv A outer s H E) body t ∧ t { nx := fun _ H' => Q .non H', rt := Q } (start N vs) H) :
    FnOk P w K mg base CX (k + 1) f (PySem.W.fnOf name qual params body scope dV kV doc pm an cdv ct) ps sp := by
  refine ⟨len, fun A outer s H args us vs Q E hr e0 hb r hsp => ?_⟩
  have hl := len _ _ _ _ hsp
  have KX : K.In s.heap := e0.mod.kin.keeps fun b o e => (e0.bs b o e).1
  have lim : s.heap.NoLimit := e0.mod.nolimit.keeps fun b o e => (e0.bs b o e).1
  have hkind : ∀ y ∈ ps.zip us, scope.names.lookup y.1 = some .local ∨ (scope.names.lookup y.1 = some .cell ∧ ((cellsFrom (s.heap.objs.size + 1) scope.names []).lookup y.1).isSome = true) := fun ⟨n, v⟩ hy => by
    rcases S.par n (List.of_mem_zip hy).1 with q | q
    · exact .inl q
    · exact .inr ⟨q, PySem.W.cellsFrom_some _ _ _ (.inl q)⟩
  refine codeAny_call_function hr.depth (KX _ _ lk) rfl S.co S.gen rfl (PySem.W.codeRec_of KX hcd) (hb _ _ _ _ ?_)
  refine wpAny_newFunctionEnv_cells S.kind hkind fun env he s1 x => ?_
  subst he
  refine ⟨lim.keeps x.toInCall.keep, codeAny_func ?_⟩
  obtain ⟨t, ht, hq⟩ := hbody A outer s H vs Q E (hr.deeper _) hsp
  have I : Inv (cxOf CX P w K mg base N qual scope f cdv A outer s H E) [] (start N vs) H s1 := inv_start S hr.hd e0 hl r x
  refine wpAny_mono (ht [] s1 (start N vs) H _ I hq) (fun fl s' hs => ?_) fun e s' hs => hs
  have fin : ∀ {σ' : St} {H' : Hp} {v : V} {u : Value}, Inv (cxOf CX P w K mg base N qual scope f cdv A outer s H E) [] σ' H' s' → RelV v u → Q v H' → CE outer P w H s Q u s' :=
    fun {σ' H' v u} J rv q => ⟨v, H', J.os, J.bare, J.base, J.hok, rv, q⟩
  cases fl with
  | ret u =>
    obtain ⟨v, σ', H', J, rv, q⟩ := hs
    exact fin J rv q
  | next =>
    obtain ⟨σ', H', J, q⟩ := hs
    exact fin (v := V.non) (u := Value.none) J rfl q
  | brk =>
    obtain ⟨_, _, _, q⟩ := hs
    exact False.elim q
  | cont =>
    obtain ⟨_, _, _, q⟩ := hs
    exact False.elim q
end L2
namespace L2
open PySem PySem.Spec PyProof.Rows
section
variable {X : Cx} {x : Str} {p pos : Pos} {e : Expr} {es : List Expr} {t : TA} {id T : String} {r : List V → Hp → VK → Prop}
def tCB (r : List V → Hp → VK → Prop) (t : TA) : TE := fun σ H Q => t σ H fun vs H1 => r vs H1 Q
theorem pe_callB (hc : CallR X (.builtin id) r) (hg : Gl X x) (hm : X.mg x = none) (hv : bootBuiltins x = some (.builtin id)) (ha : PA X (e :: es) t) (hn : x ≠ "__name__" := by decide) (hdb : (x == ("__debug__" : Str)) = false := by decide)
    (he : starEach (e :: es) X.env = (false, eval e X.env) :: starEach es X.env := by rfl) (hpl : (backTo pos (starEach es X.env)).any (·.1) = false := by rfl) : PE X (.Call (.Name x p) (e :: es) [] pos) (tCB r t) := by
  intro pins s σ H Q I h
  refine wpAny_Call_Name_kw (ld_blt I hg hm hv ?_ hn hdb)
  exact PyProof.Rows.callWith_builtin1 (thn (ha pos pins s σ H _ I h) fun us s1 ⟨vs, H1, I1, r1, q1⟩ => hc pins s1 σ H1 vs us Q I1 r1 q1) he hpl
end
end L2
namespace HT
open PySem PyProof.Rows
section
open PySem.SeqAt
open PySem.AutoSeq1 (wpAny_loadPart')
open PySem.MeetsSeq PySem.MeetsSeq2 PySem.MeetsSeq3
end
section
variable {prog : Program} {w : World} {A : Around} {E : Value → Shared → Prop} {s : Shared}
def sIx (n d : Nat) : Option Int → Nat
  | none => d
  | some v => if v < 0 then (v + (n : Int)).toNat else min v.toNat n
theorem sIx_none (n d : Nat) : sIx n d none = d := rfl
theorem sIx_nat (n d k : Nat) : sIx n d (some (k : Int)) = min k n := by
  show (if (k : Int) < 0 then ((k : Int) + (n : Int)).toNat else min (k : Int).toNat n) = min k n
  rw [if_neg (by omega), Int.toNat_natCast]
end
end HT
namespace L2
open PySem PySem.Spec PyProof.Rows
abbrev TO := St → Hp → (Option Int → Hp → Prop) → Prop
def PO (X : Cx) (e : Option Expr) (t : TO) : Prop :=
  ∀ (pins : List (Addr × Obj)) (s : Shared) (σ : St) (H : Hp) (Q : Option Int → Hp → Prop), Inv X pins σ H s → t σ H Q →
    wpAny (model X.prog X.w) X.A (evalPart e X.env) (fun u s' => ∃ o H', Inv X pins σ H' s' ∧ IsPart u o ∧ Q o H') X.xe s
def tNoPart : TO := fun _ H Q => Q none H
def tPart (t : TE) : TO := fun σ H Q => t σ H fun x H1 => ∃ i, x = .int i ∧ Q (some i) H1
section
variable {X : Cx} {e : Expr} {te : TE} {lo hi : Option Expr} {tl th : TO} {pos p2 : Pos}
theorem po_none : PO X none tNoPart := by
  intro pins s σ H Q I h
  rw [evalPart_none]
  exact wpAny_pure ⟨none, H, I, .none, h⟩
theorem po_some (h : PE X e te) : PO X (some e) (tPart te) := by
  intro pins s σ H Q I hw
  rw [evalPart_some]
  refine thn (h pins s σ H _ I hw) fun u s1 ⟨x, H1, I1, r1, q1⟩ => ?_
  obtain ⟨i, rfl, q⟩ := q1
  obtain ⟨t, rfl⟩ := r1
  exact ⟨some i, H1, I1, .int i t, q⟩
def SlR (X : Cx) (r : V → Option Int → Option Int → Hp → VK → Prop) : Prop :=
  ∀ (pins : List (Addr × Obj)) (s : Shared) (σ : St) (H : Hp) (x : V) (v vl vu : Value) (lo hi : Option Int) (sl : Addr) (Q : VK), Inv X pins σ H s → RelV x v → s.heap.IsSliceOf sl vl vu .none → IsPart vl lo → IsPart vu hi → r x lo hi H Q →
    ∃ T id, typeLookup (.type T) "__getitem__" = pure (some (.builtin id)) ∧ s.TypeIs v T ∧ wpAny (model X.prog X.w) X.A (getItem v (.ref sl)) (EP X pins σ Q) X.xe s
def tSl (r : V → Option Int → Option Int → Hp → VK → Prop) (te : TE) (tl th : TO) : TE := fun σ H Q => te σ H fun x H1 => tl σ H1 fun l H2 => th σ H2 fun u H3 => r x l u H3 Q
theorem pe_slice {r : V → Option Int → Option Int → Hp → VK → Prop} (hr : SlR X r) (he : PE X e te) (hl : PO X lo tl) (hu : PO X hi th) : PE X (.Subscript e (.Slice lo hi none p2) pos) (tSl r te tl th) := by
  intro pins s σ H Q I h
  refine Subscript_ (thn (he pins s σ H _ I h) fun v s1 ⟨x, H1, I1, r1, q1⟩ => ?_)
  refine wpAny_Slice (thn (hl pins s1 σ H1 _ I1 q1) fun vl s2 ⟨l, H2, I2, pl, q2⟩ => thn (hu pins s2 σ H2 _ I2 q2) fun vu s3 ⟨u, H3, I3, pu, q3⟩ => ?_)
  rw [evalPart_none]
  refine wpAny_pure ?_
  have I4 : Inv X pins σ H3 { s3 with heap := s3.heap.push { cls := .type "slice", data := .fields #[vl, vu, .none] } } := I3.kept (t' := s3.toks) fun b ob q => Heap.get?_push_of_some _ q
  obtain ⟨T, id, hT, ht, hg⟩ := hr pins { s3 with heap := s3.heap.push { cls := .type "slice", data := .fields #[vl, vu, .none] } } σ H3 x v vl vu l u s3.heap.objs.size Q I4 r1 (Heap.IsSliceOf.new ..) pl pu q3
  show wpAny (model X.prog X.w) X.A (subscriptTail e (.Slice lo hi none p2) v (.ref s3.heap.objs.size)) (EP X pins σ Q) X.xe { s3 with heap := s3.heap.push { cls := .type "slice", data := .fields #[vl, vu, .none] } }
  exact tail_any (ops := [.ref s3.heap.objs.size, v]) ht hT hg (by with_unfolding_all rfl)
def cutV (xs : List V) (lo hi : Option Int) : List V := (xs.drop (HT.sIx xs.length 0 lo)).take (HT.sIx xs.length xs.length hi - HT.sIx xs.length 0 lo)
theorem cutV_length (xs : List V) (lo hi : Option Int) : (cutV xs lo hi).length ≤ xs.length := by
  unfold cutV
  rw [List.length_take, List.length_drop]
  omega
end
end L2
namespace L2
open PySem PySem.Spec PyProof.Rows
def ixN (n : Nat) (i : Int) : Option Nat := if 0 ≤ i then (if i < n then some i.toNat else none) else if -(n : Int) ≤ i then some (i + n).toNat else none
def atI {α : Type} (xs : List α) (i : Int) : Option α := (ixN xs.length i).bind fun j => xs[j]?
theorem ixN_seq {n : Nat} {i : Int} {j : Nat} (h : ixN n i = some j) : seqIndex? i n = some j ∧ j < n ∧ -(n : Int) ≤ i ∧ i < n := by
  unfold ixN at h
  by_cases h0 : 0 ≤ i
  · rw [if_pos h0] at h
    by_cases h1 : i < n
    · rw [if_pos h1] at h
      have e : i.toNat = j := Option.some.inj h
      exact ⟨by rw [seqIndex_of h0 h1, e], by omega, by omega, h1⟩
    · rw [if_neg h1] at h; cases h
  · rw [if_neg h0] at h
    by_cases h1 : -(n : Int) ≤ i
    · rw [if_pos h1] at h
      have e : (i + n).toNat = j := Option.some.inj h
      exact ⟨by rw [seqIndex_neg (by omega) h1, e], by omega, h1, by omega⟩
    · rw [if_neg h1] at h; cases h
theorem atI_get {α : Type} {xs : List α} {i : Int} {v : α} (h : atI xs i = some v) : ∃ j, seqIndex? i xs.length = some j ∧ xs[j]? = some v ∧ j < xs.length ∧ -(xs.length : Int) ≤ i ∧ i < xs.length := by
  unfold atI at h
  cases e : ixN xs.length i with
  | none => rw [e] at h; cases h
  | some j =>
    rw [e] at h
    obtain ⟨h1, h2, h3, h4⟩ := ixN_seq e
    exact ⟨j, h1, h, h2, h3, h4⟩
theorem atI_nat {α : Type} {xs : List α} {j : Nat} {v : α} (h : xs[j]? = some v) : atI xs (j : Int) = some v := by
  have hj : j < xs.length := (List.getElem?_eq_some_iff.mp h).1
  have e : ixN xs.length (j : Int) = some j := by
    unfold ixN
    rw [if_pos (by omega), if_pos (by omega)]; simp
  unfold atI; rw [e]; exact h
theorem atI_last {α : Type} (xs : List α) (v : α) : atI (xs ++ [v]) (-1) = some v := by
  have hl : (xs ++ [v]).length = xs.length + 1 := by simp
  have e : ixN (xs ++ [v]).length (-1) = some xs.length := by
    unfold ixN
    rw [hl, if_neg (by decide), if_pos (by omega)]
    congr 1
    omega
  unfold atI
  rw [e]
  show (xs ++ [v])[xs.length]? = some v
  simp
def PlainIx (b : Expr) : Prop := ∀ o i, subscripted b false o i = operate [o, i] (getItem o i)
def IxR (X : Cx) (r : R2) : Prop :=
  ∀ (value slice : Expr) (pins : List (Addr × Obj)) (s : Shared) (σ : St) (H : Hp) (x y : V) (v u : Value) (Q : VK), Inv X pins σ H s → RelV x v → RelV y u → r x y H Q →
    subscripted slice false v u = operate [v, u] (getItem v u) → wpAny (model X.prog X.w) X.A (subscriptTail value slice v u) (EP X pins σ Q) X.xe s
def MtR (X : Cx) (id : String) (r : V → List V → Hp → VK → Prop) : Prop :=
  ∀ (pins : List (Addr × Obj)) (s : Shared) (σ : St) (H : Hp) (x : V) (xs : List V) (v : Value) (us : List Value) (Q : VK), Inv X pins σ H s → RelV x v → Vals xs us → r x xs H Q →
    wpAny (model X.prog X.w) X.A (call (.builtin id) (v :: us)) (EP X pins σ Q) X.xe s
section
variable {X : Cx} {a b : Expr} {ta tb : TE} {pos : Pos}
theorem pe_ix {r : R2} (hr : IxR X r) (ha : PE X a ta) (hb : PE X b tb) (hs : PlainIx b) : PE X (.Subscript a b pos) (tOp r ta tb) := by
  intro pins s σ H Q I h
  exact Subscript_ (binT ha hb I h fun v u s2 x y H2 I2 rx ry q => hr a b pins s2 σ H2 x y v u Q I2 rx ry q (hs _ _))
def rIxL (K : PySem.W.Frag) : R2 := fun x y H Q => ∃ p xs i v, x = .ref p ∧ y = .int i ∧ SqL K H p xs ∧ atI xs i = some v ∧ Q v H
theorem ix_list : IxR X (rIxL X.K) := by
  intro value slice pins s σ H x y v u Q I rx ry h hs
  obtain ⟨p, xs, i, z, rfl, rfl, hq, he, q⟩ := h
  cases rx
  obtain ⟨t, rfl⟩ := ry
  obtain ⟨its, r, pl, hz⟩ := I.list hq
  obtain ⟨j, h1, h2, h3, h4, h5⟩ := atI_get he
  obtain ⟨w, ew, rw'⟩ := r.get h2
  have hl := r.length
  have hn := line63
  have fin : EP X pins σ Q w s := ⟨z, H, I, rw', q⟩
  by_cases h0 : 0 ≤ i
  · have hj : i.toNat = j := by
      rw [seqIndex_of h0 h5] at h1
      exact Option.some.inj h1
    exact item_listR pl.isList h0 (by omega) (by rw [hj]; simpa using ew) fin hs
  · have hj : (i + (its.toArray.size : Int)).toNat = j := by
      rw [seqIndex_neg (by omega) h4] at h1
      rw [List.size_toArray, ← hl]
      exact Option.some.inj h1
    exact subscriptTail_builtinR (x := w) pl.isList.typeIs slot_list_getitem.lookup
      (wpAny_getItem_list_neg (Q := fun r s' => r = w ∧ EP X pins σ Q r s') pl.isList (by omega) (by rw [List.size_toArray] <;> omega) (by omega) (by rw [hj]; simpa using ew) ⟨rfl, fin⟩) hs
theorem mapSeq_set (its : List Value) (n j : Nat) (u : Value) : Obj.mapSeq (·.setIfInBounds j u) { cls := .type "list", data := .seq its.toArray n } = { cls := .type "list", data := .seq (its.set j u).toArray n } := by
  simp [Obj.mapSeq]
theorem Inv.lst {pins : List (Addr × Obj)} {σ : St} {H : Hp} {s : Shared} {p : Addr} {xs : List V} (I : Inv X pins σ H s) (h : H p = some (.lst xs)) :
    ∃ (its : List Value) (n : Nat), Vals xs its ∧ s.heap.get? p = some { cls := .type "list", data := .seq its.toArray n } ∧ xs.length ≤ sizeLine := by
  obtain ⟨z, its, n, r, e⟩ := I.hok p _ h
  exact ⟨its, n, r, e, z⟩
theorem Inv.lstUpd {pins : List (Addr × Obj)} {σ : St} {H : Hp} {s : Shared} {p : Addr} {xs ys : List V} {its its' : List Value} {n n' : Nat} {f : Obj → Obj} (I : Inv X pins σ H s) (h : H p = some (.lst xs))
    (ho : s.heap.get? p = some { cls := .type "list", data := .seq its.toArray n }) (hf : f { cls := .type "list", data := .seq its.toArray n } = { cls := .type "list", data := .seq its'.toArray n' }) (r : Vals ys its') (hz : ys.length ≤ sizeLine) (t : Nat) :
    Inv X pins σ (upd H p (.lst ys)) { s with heap := s.heap.update p f, toks := t } := by
  have e : (s.heap.update p f).get? p = some { cls := .type "list", data := .seq its'.toArray n' } := by
    rw [Heap.get?_update_self f ho (by rw [hf] <;> rfl), hf]
  refine I.write (x := p) (e := p) (by rw [h]; trivial) (.inl rfl) (fun b u hb q => (Heap.get?_update_other _ _ (Ne.symm hb)).trans q) ⟨_, e⟩ ?_
  exact ⟨hz, its', n', r, e⟩
def rSetL : V → V → V → Hp → (Hp → Prop) → Prop := fun o i v H Q => ∃ p xs k j, o = .ref p ∧ i = .int k ∧ H p = some (.lst xs) ∧ ixN xs.length k = some j ∧ Q (upd H p (.lst (xs.set j v)))
theorem set_list : PSet X rSetL := by
  intro pins s σ H o i v ov iv u Q I ro ri rv h
  obtain ⟨p, xs, k, j, rfl, rfl, hp, hj, q⟩ := h
  cases ro
  obtain ⟨t, rfl⟩ := ri
  obtain ⟨its, n, r, ho, hz⟩ := I.lst hp
  obtain ⟨h1, h2, h3, h4⟩ := ixN_seq hj
  have hl := r.length
  have hn := line63
  have I' : Inv X pins σ (upd H p (.lst (xs.set j v))) { s with heap := s.heap.update p (Obj.mapSeq (·.setIfInBounds j u)) } :=
    I.lstUpd hp ho (mapSeq_set its n j u) (r.set rv j) (by rw [List.length_set]; exact hz) s.toks
  by_cases h0 : 0 ≤ k
  · have hk : k.toNat = j := by
      rw [seqIndex_of h0 h4] at h1
      exact Option.some.inj h1
    exact PySem.W.ki_setAt ho h0 (by omega) (by rw [List.size_toArray, ← hl]; exact h4) (by rw [hk]; exact ⟨_, I', q⟩)
  · have hk : (k + (its.toArray.size : Int)).toNat = j := by
      rw [seqIndex_neg (by omega) h3] at h1
      rw [List.size_toArray, ← hl]
      exact Option.some.inj h1
    exact PySem.W.ki_setBack ho (by omega) (by rw [List.size_toArray, ← hl]; exact h3) (by omega) (by rw [hk]; exact ⟨_, I', q⟩)
theorem slice_bounds (lo hi : Option Int) (n : Nat) : (sliceBounds lo hi none n).1 = ((HT.sIx n 0 lo : Nat) : Int) ∧ (sliceBounds lo hi none n).2.1 = ((HT.sIx n n hi : Nat) : Int) ∧ (sliceBounds lo hi none n).2.2 = 1 := by
  refine ⟨?_, ?_, rfl⟩
  · cases lo with
    | none => simp [sliceBounds, HT.sIx]
    | some i =>
      simp only [sliceBounds, HT.sIx, Option.getD_none, show (1 : Int) > 0 by decide, if_true]
      by_cases h : i < 0
      · simp only [h, if_true] <;> omega
      · simp only [h, if_false] <;> omega
  · cases hi with
    | none => simp [sliceBounds, HT.sIx]
    | some i =>
      simp only [sliceBounds, HT.sIx, Option.getD_none, show (1 : Int) > 0 by decide, if_true]
      by_cases h : i < 0
      · simp only [h, if_true] <;> omega
      · simp only [h, if_false] <;> omega
theorem slicePick_cut (its : List Value) (lo hi : Option Int) : slicePick its.toArray lo hi none = ((its.drop (HT.sIx its.length 0 lo)).take (HT.sIx its.length its.length hi - HT.sIx its.length 0 lo)).toArray := by
  obtain ⟨h1, h2, h3⟩ := slice_bounds lo hi its.toArray.size
  unfold slicePick
  rw [h1, h2, h3]
  simp only [sliceRange_one, pick_run, List.size_toArray] <;> rfl
def rSlL (K : PySem.W.Frag) : V → Option Int → Option Int → Hp → VK → Prop := fun x lo hi H Q => ∃ a xs, x = .ref a ∧ SqL K H a xs ∧ ∀ p, H p = none → Q (.ref p) (upd H p (.lst (cutV xs lo hi)))
theorem sl_list : SlR X (rSlL X.K) := by
  intro pins s σ H x v vl vu lo hi sl Q I rx hs pl pu h
  obtain ⟨a, xs, rfl, hx, q⟩ := h
  cases rx
  obtain ⟨its, r, ht, hz⟩ := I.list hx
  have hlen := r.length
  refine ⟨"list", _, slot_list_getitem.lookup, ht.isList.typeIs, ?_⟩
  refine wpAny_getItem_list_slice ht.isList hs pl pu .none (by simp) ?_ (by rw [List.size_toArray] <;> omega)
  rw [slicePick_cut, ← hlen]
  refine ⟨.ref s.heap.objs.size, _, I.laid (t' := s.toks) (o := .lst (cutV xs lo hi)) (fun b ob q => Heap.get?_push_of_some _ q) (Nat.le_refl _) ?_, rfl, q _ (I.hok.fresh (Nat.le_refl _))⟩
  exact ⟨Nat.le_trans (cutV_length xs lo hi) hz, _, 0, (r.drop (HT.sIx xs.length 0 lo)).take (HT.sIx xs.length xs.length hi - HT.sIx xs.length 0 lo), Heap.get?_push_size _ rfl⟩
theorem call_len_seq : CallR X (.builtin "len") (fun xs H Q => ∃ p ys, xs = [.ref p] ∧ (SqL X.K H p ys ∨ SqT X.K H p ys) ∧ Q (.int ys.length) H) := by
  intro pins s σ H xs us Q I r h
  obtain ⟨p, ys, rfl, hq, q⟩ := h
  obtain ⟨u, rfl, rx⟩ := vals1 r
  cases rx
  have hn := line63
  rcases hq with hq | hq
  · obtain ⟨its, r', pl, hz⟩ := I.list hq
    have hlen := r'.length
    exact Calls.call_len_list pl.isList (by simp only [List.size_toArray] <;> omega) ⟨.int ys.length, H, I.tok _, ⟨s.toks + 1, by rw [List.size_toArray, hlen]⟩, q⟩
  · obtain ⟨its, r', pl, hz⟩ := I.tuple hq
    have hlen := r'.length
    exact len_tuple pl (by simp only [List.size_toArray] <;> omega) ⟨.int ys.length, H, I.tok _, ⟨s.toks + 1, by rw [List.size_toArray, hlen]⟩, q⟩
def tyV (K : PySem.W.Frag) (T : String) (x : V) (H : Hp) : Prop := match x with
  | .str _ => T = "str"
  | .int _ => T = "int"
  | .ref p => (T = "list" ∧ ∃ xs, SqL K H p xs) ∨ (T = "tuple" ∧ ∃ o, K.lookup p = some o ∧ o.cls = .type "tuple" ∧ o.dict = none) ∨
      (T = "dict" ∧ ((∃ kvs, H p = some (.dK kvs)) ∨ ∃ kvs, H p = some (.dT kvs))) ∨ (T = "set" ∧ ∃ S n, H p = some (.set S n))
  | _ => False
theorem tyV_is {pins : List (Addr × Obj)} {σ : St} {H : Hp} {s : Shared} {T : String} {x : V} {v : Value} (I : Inv X pins σ H s) (r : RelV x v) (ty : tyV X.K T x H) :
    s.TypeIs v T ∧ ∀ a, v = .ref a → ∃ ob, s.heap.get? a = some ob ∧ ob.dict = none := by
  cases x with
  | str z =>
    obtain ⟨t, rfl⟩ := r
    cases (show T = "str" from ty)
    exact ⟨typeIs_str s z t, fun _ e => nomatch e⟩
  | int i =>
    obtain ⟨t, rfl⟩ := r
    cases (show T = "int" from ty)
    exact ⟨typeIs_int s i t, fun _ e => nomatch e⟩
  | ref p =>
    cases r
    rcases ty with ⟨rfl, xs, hq⟩ | ⟨rfl, o, hk, hc, hd⟩ | ⟨rfl, hk⟩ | ⟨rfl, S, n, hk⟩
    · obtain ⟨its, _, pl, _⟩ := I.list hq
      refine ⟨pl.isList.typeIs, fun a e => ?_⟩
      cases e
      obtain ⟨o, n, e, c, hd, _⟩ := pl
      exact ⟨o, e, hd⟩
    · refine ⟨⟨o, I.kIn p o hk, hc⟩, fun a e => ?_⟩
      cases e
      exact ⟨o, I.kIn _ o hk, hd⟩
    · have z : ∃ o, s.heap.get? p = some o ∧ o.ExactDict := by
        rcases hk with ⟨kvs, hk⟩ | ⟨kvs, hk⟩
        · obtain ⟨_, _, _, _, o, _, _, e, ex, _⟩ := I.hok p _ hk
          exact ⟨o, e, ex⟩
        · obtain ⟨_, _, _, _, o, _, _, e, ex, _⟩ := I.hok p _ hk
          exact ⟨o, e, ex⟩
      obtain ⟨o, e, ex⟩ := z
      refine ⟨⟨o, e, ex.1⟩, fun a e2 => ?_⟩
      cases e2
      exact ⟨o, e, ex.2.1⟩
    · obtain ⟨o, _, _, _, e, ex, _⟩ := I.hok p _ hk
      refine ⟨⟨o, e, ex.1⟩, fun a e2 => ?_⟩
      cases e2
      exact ⟨o, e, ex.2.1⟩
  | _ => exact False.elim ty
def tBM0 (K : PySem.W.Frag) (T : String) (r : V → List V → Hp → VK → Prop) (to : TE) : TE := fun σ H Q => to σ H fun x H1 => tyV K T x H1 ∧ r x [] H1 Q
def tBM (K : PySem.W.Frag) (T : String) (r : V → List V → Hp → VK → Prop) (to : TE) (t : TA) : TE := fun σ H Q => to σ H fun x H1 => tyV K T x H1 ∧ t σ H1 fun xs H2 => r x xs H2 Q
variable {o e : Expr} {es : List Expr} {to : TE} {t : TA} {name : Str} {apos cpos : Pos} {T id : String} {r : V → List V → Hp → VK → Prop}
theorem pe_bm0 (pa : PlainAttrs T) (slot : Slot T name id) (hty : typeOf (.builtin id) = pure (.type "method_descriptor")) (hm : MtR X id r) (ho : PE X o to)
    (hbase : attributeBase o name X.env (eval o X.env) = eval o X.env := by rfl) (hline : (apos.endLine == cpos.line) = true := by rfl) : PE X (.Call (.Attribute o name apos) [] [] cpos) (tBM0 X.K T r to) := by
  intro pins s σ H Q I h
  refine wpAny_Call_method0_late hbase hline (thn (ho pins s σ H _ I h) fun v s1 ⟨x, H1, I1, r1, ty, q1⟩ => ?_)
  obtain ⟨h1, h2⟩ := tyV_is I1 r1 ty
  exact ⟨T, id, pa, slot, hty, h1, h2, Calls.callWith_builtin rfl (PySem.evalArgs_none (hm pins s1 σ H1 x [] v [] Q I1 r1 .nil q1))⟩
theorem pe_bm (pa : PlainAttrs T) (slot : Slot T name id) (hty : typeOf (.builtin id) = pure (.type "method_descriptor")) (hm : MtR X id r) (ho : PE X o to) (ha : PA X (e :: es) t)
    (hbase : attributeBase o name X.env (eval o X.env) = eval o X.env := by rfl)
    (hfew : ((backTo cpos (starEach (e :: es) X.env)).all (fun x => !x.1) && (backToKw cpos (keywordEach [] X.env)).all (fun x => x.1.isSome)
      && decide ((e :: es).length + ([] : List Keyword).length + (if ([] : List Keyword).isEmpty then 0 else 1) < 30)) = true := by rfl)
    (hline : (apos.endLine == cpos.line) = true := by rfl) (hs : starEach (e :: es) X.env = (false, eval e X.env) :: starEach es X.env := by rfl) (hplain : (backTo cpos (starEach es X.env)).any (·.1) = false := by rfl) :
    PE X (.Call (.Attribute o name apos) (e :: es) [] cpos) (tBM X.K T r to t) := by
  intro pins s σ H Q I h
  refine wpAny_Call_method_late hbase hfew hline rfl (thn (ho pins s σ H _ I h) fun v s1 ⟨x, H1, I1, r1, ty, q1⟩ => ?_)
  obtain ⟨h1, h2⟩ := tyV_is I1 r1 ty
  refine ⟨T, id, pa, slot, hty, h1, h2, ?_⟩
  have hA := ha cpos pins s1 σ H1 _ I1 q1
  rw [hs] at hA ⊢
  refine Calls.callWith_builtin (by show (false || (backTo cpos (starEach es X.env)).any (·.1)) = false; rw [hplain] <;> rfl) (Calls.evalArgs_plain ?_)
  exact thn hA fun us s2 ⟨vs, H2, I2, r2, q2⟩ => hm pins s2 σ H2 x vs v us Q I2 r1 r2 q2
end
end L2
namespace L2
open PySem PySem.Spec PyProof.Rows
def MtM (X : Cx) (id : String) (r : V → List V → Hp → VK → Prop) : Prop :=
  ∀ (pins : List (Addr × Obj)) (s : Shared) (σ : St) (H : Hp) (x : V) (xs : List V) (v : Value) (us : List Value) (Q : VK), Inv X pins σ H s → RelV x v → Vals xs us → r x xs H Q →
    wpAny (model X.prog X.w) X.A (call (.builtin id) (v :: us)) (EP X pins σ Q) X.xe s
theorem Vals.one : ∀ {x : V} {us : List Value}, Vals [x] us → ∃ u, us = [u] ∧ RelV x u
  | _, _, .cons r .nil => ⟨_, rfl, r⟩
theorem Vals.zero : ∀ {us : List Value}, Vals [] us → us = []
  | _, .nil => rfl
theorem Vals.reverse {xs : List V} {us : List Value} (h : Vals xs us) : Vals xs.reverse us.reverse := by
  induction h with
  | nil => exact .nil
  | cons r t ih => rw [List.reverse_cons, List.reverse_cons]; exact Vals.append ih (.cons r .nil)
theorem Vals.rep {xs : List V} {us : List Value} (h : Vals xs us) : ∀ k : Nat, Vals (List.replicate k xs).flatten (List.replicate k us).flatten
  | 0 => .nil
  | k + 1 => by
    rw [List.replicate_succ, List.replicate_succ, List.flatten_cons, List.flatten_cons]
    exact Vals.append h (Vals.rep h k)
theorem foldl_rep (its : List Value) : ∀ (k : Nat) (acc : List Value),
    List.foldl (fun x1 x2 => x1 ++ x2) acc.toArray (List.replicate k its.toArray) = (acc ++ (List.replicate k its).flatten).toArray
  | 0, acc => by simp
  | k + 1, acc => by
    have e : acc.toArray ++ its.toArray = (acc ++ its).toArray := by simp
    have e2 : (acc ++ its) ++ (List.replicate k its).flatten = acc ++ (List.replicate (k + 1) its).flatten := by
      rw [List.replicate_succ, List.flatten_cons, List.append_assoc]
    rw [← e2, ← foldl_rep its k (acc ++ its), ← e, List.replicate_succ, List.foldl_cons]
section
variable {X : Cx} {pins : List (Addr × Obj)} {σ : St} {H : Hp} {s : Shared} {l b : Addr} {xs ys zs : List V}
theorem Inv.lset {its its' : List Value} {n : Nat} {f : Array Value → Array Value} {t' : Nat} (I : Inv X pins σ H s) (hH : H l = some (.lst xs))
    (e : s.heap.get? l = some { cls := .type "list", data := .seq its.toArray n }) (hf : f its.toArray = its'.toArray) (hv : Vals ys its') (hz : ys.length ≤ sizeLine) :
    Inv X pins σ (upd H l (.lst ys)) { s with heap := s.heap.update l (Obj.mapSeq f), toks := t' } := by
  have q := PySem.IsL.update e f
  rw [hf] at q
  refine I.write (x := l) (e := l) (by rw [hH]; exact trivial) (.inl rfl) (fun b' u hb hu => (Heap.get?_update_other s.heap (Obj.mapSeq f) (Ne.symm hb)).trans hu) ⟨_, q⟩ ?_
  exact ⟨hz, its', _, hv, q⟩
theorem Inv.lnew {its : List Value} {t' : Nat} (I : Inv X pins σ H s) (hv : Vals ys its) (hz : ys.length ≤ sizeLine) :
    Inv X pins σ (upd H s.heap.objs.size (.lst ys)) { s with heap := s.heap.push { cls := .type "list", data := .seq its.toArray }, toks := t' } :=
  I.laid (fun _ _ q => Heap.get?_push_of_some _ q) (Nat.le_refl _) ⟨hz, its, 0, hv, Heap.get?_push_size _ rfl⟩
theorem Inv.fresh (I : Inv X pins σ H s) : H s.heap.objs.size = none := I.hok.fresh (Nat.le_refl _)
theorem Inv.lstM (I : Inv X pins σ H s) (hH : H l = some (.lst xs)) : xs.length ≤ sizeLine ∧ ∃ (its : List Value) (n : Nat), Vals xs its ∧ xs.length = its.length ∧ s.heap.get? l = some { cls := .type "list", data := .seq its.toArray n } := by
  obtain ⟨z, its, n, r, e⟩ := I.hok l _ hH
  exact ⟨z, its, n, r, r.length, e⟩
theorem notLongL {n : Nat} (h : n ≤ sizeLine) : Builtin.List.listTooLong n = false := by
  unfold Builtin.List.listTooLong
  exact decide_eq_false (by omega)
end
section
variable {X : Cx}
def rAppend : V → List V → Hp → VK → Prop := fun x vs H Q => ∃ l xs y, x = .ref l ∧ vs = [y] ∧ H l = some (.lst xs) ∧ xs.length < sizeLine ∧ Q .non (upd H l (.lst (xs ++ [y])))
theorem mt_append : MtM X "list.append" rAppend := by
  intro pins s σ H x vs v us Q I rx rv h
  obtain ⟨l, xs, y, rfl, rfl, hH, hz, q⟩ := h
  cases rx
  obtain ⟨u, rfl, ru⟩ := rv.one
  obtain ⟨z, its, n, r, hl, e⟩ := I.lstM hH
  refine call_meets F.slot_list_append ⟨_, e, rfl⟩ F.entry_list_append (F.args_list_append_2 _ _) (PySem.list_append l its.toArray n u (by rw [List.size_toArray]; omega)) ⟨e, ?_⟩
  refine ⟨.non, _, I.lset (its' := its ++ [u]) hH e (by simp) (r.append (.cons ru .nil)) ?_, rfl, q⟩
  rw [List.length_append, List.length_singleton]
  omega
def rExtend : V → List V → Hp → VK → Prop := fun x vs H Q => ∃ l b xs zs, x = .ref l ∧ vs = [.ref b] ∧ H l = some (.lst xs) ∧ H b = some (.lst zs) ∧ xs.length + zs.length ≤ sizeLine ∧ Q .non (upd H l (.lst (xs ++ zs)))
theorem mt_extend : MtM X "list.extend" rExtend := by
  intro pins s σ H x vs v us Q I rx rv h
  obtain ⟨l, b, xs, zs, rfl, rfl, hH, hB, hz, q⟩ := h
  cases rx
  obtain ⟨u, rfl, ru⟩ := rv.one
  cases ru
  obtain ⟨z, its, n, r, hl, e⟩ := I.lstM hH
  obtain ⟨z2, its2, n2, r2, hl2, e2⟩ := I.lstM hB
  have hsz : its.toArray.size + its2.toArray.size ≤ sizeLine := by rw [List.size_toArray, List.size_toArray]; omega
  have hlong : ¬ (!its.toArray.isEmpty && Builtin.List.listTooLong (its.toArray.size + its2.toArray.size)) = true := by
    rw [notLongL hsz, Bool.and_false]
    exact Bool.false_ne_true
  refine call_meets F.slot_list_extend ⟨_, e, rfl⟩ F.entry_list_extend (F.args_list_extend_2 _ _)
    (AutoSeq1.list_extend_list_list_0 l its.toArray n b its2.toArray n2 hlong (by rw [List.size_toArray]; omega) (by omega)) ⟨e, e2, ?_⟩
  refine ⟨.non, _, I.lset (its' := its ++ its2) hH e (by simp) (r.append r2) ?_, rfl, q⟩
  rw [List.length_append]
  omega
def rReverse : V → List V → Hp → VK → Prop := fun x vs H Q => ∃ l xs, x = .ref l ∧ vs = [] ∧ H l = some (.lst xs) ∧ Q .non (upd H l (.lst xs.reverse))
theorem mt_reverse : MtM X "list.reverse" rReverse := by
  intro pins s σ H x vs v us Q I rx rv h
  obtain ⟨l, xs, rfl, rfl, hH, q⟩ := h
  cases rx
  have hus := rv.zero
  subst hus
  obtain ⟨z, its, n, r, hl, e⟩ := I.lstM hH
  refine call_meets F.slot_list_reverse ⟨_, e, rfl⟩ F.entry_list_reverse (F.args_list_reverse_1 _) (AutoSeq1.list_reverse_list_0 l its.toArray n (by rw [List.size_toArray]; omega)) ⟨e, ?_⟩
  refine ⟨.non, _, I.lset (its' := its.reverse) hH e (by simp) r.reverse ?_, rfl, q⟩
  rw [List.length_reverse]
  omega
def rCat : R2 := fun x y H Q => ∃ l b xs zs, x = .ref l ∧ y = .ref b ∧ H l = some (.lst xs) ∧ H b = some (.lst zs) ∧ xs.length + zs.length ≤ sizeLine ∧ ∀ p, H p = none → Q (.ref p) (upd H p (.lst (xs ++ zs)))
theorem op_cat : OpR X (binaryOp .Add) rCat := by
  intro pins s σ H x y v u Q I rx ry h
  obtain ⟨l, b, xs, zs, rfl, rfl, hH, hB, hz, q⟩ := h
  cases rx
  cases ry
  obtain ⟨z, its, n, r, hl, e⟩ := I.lstM hH
  obtain ⟨z2, its2, n2, r2, hl2, e2⟩ := I.lstM hB
  refine PySem.P.add_list e e2 ?_ (by rw [List.size_toArray, List.size_toArray]; omega)
  have ea : its.toArray ++ its2.toArray = (its ++ its2).toArray := by simp
  rw [ea]
  exact ⟨.ref _, _, I.lnew (t' := s.toks) (r.append r2) (by rw [List.length_append]; omega), rfl, q _ I.fresh⟩
def rRep : R2 := fun x y H Q => ∃ l k xs, x = .ref l ∧ y = .int k ∧ H l = some (.lst xs) ∧ -(2 ^ 63) ≤ k ∧ k < 2 ^ 63 ∧ xs.length * k.toNat ≤ sizeLine ∧
  ∀ p, H p = none → Q (.ref p) (upd H p (.lst (List.replicate k.toNat xs).flatten))
theorem len_rep {α : Type} (xs : List α) (k : Nat) : (List.replicate k xs).flatten.length = k * xs.length := by
  induction k with
  | zero => simp
  | succ k ih => rw [List.replicate_succ, List.flatten_cons, List.length_append, ih, Nat.succ_mul, Nat.add_comm]
theorem op_rep : OpR X (binaryOp .Mult) rRep := by
  intro pins s σ H x y v u Q I rx ry h
  obtain ⟨l, k, xs, rfl, rfl, hH, h1, h2, hz, q⟩ := h
  cases rx
  obtain ⟨t, rfl⟩ := ry
  obtain ⟨z, its, n, r, hl, e⟩ := I.lstM hH
  have hlen : its.toArray.size * k.toNat ≤ sizeLine := by rw [List.size_toArray, ← hl]; exact hz
  have hcap : ¬ its.toArray.size * k.toNat > (2 ^ 63 - 1) / 8 := by
    have : (sizeLine : Nat) ≤ (2 ^ 63 - 1) / 8 := by decide
    omega
  have hfit : ¬ (!Builtin.List.listFitsIndex k) = true := by
    rw [fitsIndex_both h1 h2]
    exact Bool.false_ne_true
  have hlong : ¬ Builtin.List.listTooLong (its.toArray.size * k.toNat) = true := by
    rw [notLongL hlen]
    exact Bool.false_ne_true
  have hnew : List.foldl (fun x1 x2 => x1 ++ x2) #[] (List.replicate (if its.toArray.isEmpty = true then 0 else k.toNat) its.toArray) = (List.replicate k.toNat its).flatten.toArray := by
    have f0 : ∀ m : Nat, List.foldl (fun x1 x2 => x1 ++ x2) #[] (List.replicate m its.toArray) = (List.replicate m its).flatten.toArray := fun m => by
      have := foldl_rep its m []
      rw [List.nil_append] at this
      exact this
    rw [f0]
    cases its with
    | nil => simp
    | cons a r' => rw [if_neg (by simp)]
  refine wpAny_binaryOp_repeat_ref (T := "list") (U := "int") (by decide) ⟨_, e, rfl⟩ (fun s' => typeIs_int s' k t) noFill_list_mul F.fills_int_mul F.slot_int_rmul repeat_list F.slot_int_index.lookup
    (call_meets F.slot_int_rmul (typeIs_int s k t) F.entry_int_rmul (F.args_int_rmul_2 _ _) (int___rmul___int_list k t l its.toArray n)
      ⟨e, rfl, ⟨_, e, rfl⟩, call_meets F.slot_list_mul ⟨_, e, rfl⟩ F.entry_list_mul (F.args_list_mul_2 _ _) (AutoListH.list___mul___list_int_3 l its.toArray n k t hfit hcap hlong) ⟨e, ?_⟩⟩)
  rw [hnew]
  exact ⟨.ref _, _, I.lnew (t' := s.toks) (r.rep k.toNat) (by rw [len_rep, Nat.mul_comm]; exact hz), rfl, q _ I.fresh⟩
end
section
variable {prog : Program} {w : World} {A : Around} {E : Value → Shared → Prop} {s : Shared}
set_option maxRecDepth 100000 in
end
section
variable {X : Cx}
end
end L2
namespace L2
open PySem PySem.Spec PyProof.Rows
theorem Vals.ints : ∀ {ns : List Int} {us : List Value}, Vals (ns.map V.int) us → IntsAre us ns
  | [], us, h => by
    rw [List.map_nil] at h
    cases h
    exact IntsAre.nil
  | n :: ns, us, h => by
    rw [List.map_cons] at h
    cases h with
    | cons r t =>
      obtain ⟨k, rfl⟩ := r
      exact IntsAre.cons n k (Vals.ints t)
theorem Vals.bls : ∀ {bs : List Bool} {us : List Value}, Vals (bs.map V.bl) us → us = bs.map Value.bool
  | [], us, h => by
    rw [List.map_nil] at h
    cases h
    rfl
  | b :: bs, us, h => by
    rw [List.map_cons] at h
    cases h with
    | cons r t =>
      cases r
      rw [Vals.bls t, List.map_cons]
theorem Vals.ref1 {a : Addr} {us : List Value} (r : Vals [V.ref a] us) : us = [Value.ref a] := by
  cases r with
  | cons r t =>
    cases t
    cases r
    rfl
section
variable {prog : Program} {w : World} {A : Around} {E : Value → Shared → Prop} {s : Shared} {l : Addr} {its : List Value} {ns : List Int} {Q : Value → Shared → Prop}
theorem sum_raw (hh : A.handled = none) (hl : s.heap.IsList l its.toArray) (hi : IntsAre its ns)
    (h : ∀ h' tk t', (∀ b o, s.heap.get? b = some o → h'.get? b = some o) → Q (.int ns.sum t') { s with heap := h', toks := tk }) : wpAny (model prog w) A (call (.builtin "sum") [.ref l]) Q E s := by
  obtain ⟨xs, e⟩ := hi.allInts.items
  have hn : numsOf (intItems xs).toList = ns := by rw [← e]; exact hi.numsOf
  rw [nums_intItems] at hn
  rw [e] at hl
  refine PySem.sum_intListG hh hl fun h' tk t' hk => ?_
  have := h h' tk t' hk
  rw [preSum_eq, List.take_of_length_le (by simp), hn]; exact this
end
section
variable {X : Cx}
def rSum (K : PySem.W.Frag) : List V → Hp → VK → Prop := fun vs H Q => ∃ (a : Addr) (ns : List Int), vs = [V.ref a] ∧ SqL K H a (ns.map V.int) ∧ Q (.int ns.sum) H
theorem cr_sum (hc : X.calm = true) : CallR X (.builtin "sum") (rSum X.K) := by
  intro pins s σ H vs us Q I r h
  obtain ⟨a, ns, rfl, hs, q⟩ := h
  obtain ⟨its, rv, hl, _⟩ := I.list hs
  rw [Vals.ref1 r]
  exact sum_raw (I.ok.hd hc) hl.isList rv.ints fun h' tk t' hk => ⟨.int _, H, I.kept hk, ⟨_, rfl⟩, q⟩
end
section
variable {X : Cx}
end
section
variable {X : Cx}
end
theorem iter_any {prog : Program} {w : World} {A : Around} {E : Value → Shared → Prop} {s : Shared} {l : Addr} {items : Array Value} {Q : Value → Shared → Prop} (hl : s.heap.IsList l items)
    (h : ∀ s₂ : Shared, s₂ = { s with heap := s.heap.push { cls := .type "list_iterator", data := .fields #[.ref l, .int 0 0] } } →
      (s₂.heap.IsListIter s.heap.objs.size l 0 ∧ s₂.heap.IsList l items) → l ≠ s.heap.objs.size → Q (.ref s.heap.objs.size) s₂) : wpAny (model prog w) A (pyIter (.ref l)) Q E s := by
  have hlt : l < s.heap.objs.size := by obtain ⟨_, e, _⟩ := hl; exact Heap.lt_size e
  exact wpAny_pyIter_list hl (h _ rfl ⟨⟨_, Heap.get?_push_size _ rfl, rfl, rfl⟩, hl.push _⟩ (Nat.ne_of_lt hlt))
theorem truth_bools {prog : Program} {w : World} {A : Around} {bs : List Bool} {its : List Value} (e : its = bs.map Value.bool) :
    TruthOf prog w A (fun i v => its.toArray[i]? = some v) (fun i => bs.getD i false) := fun i v s Q E hv hq => by
  have hv' : its[i]? = some v := by simpa using hv
  rw [e, List.getElem?_map] at hv'
  obtain ⟨b, hb, rfl⟩ := Option.map_eq_some_iff.mp hv'
  have hg : bs.getD i false = b := by rw [List.getD_eq_getElem?_getD, hb] <;> rfl
  have hq' : Q (bs.getD i false) s := hq
  rw [hg] at hq'
  exact wpAny_truthy_bool hq'
theorem all_range : ∀ bs : List Bool, (List.range bs.length).all (fun i => bs.getD i false) = bs.all id
  | [] => rfl
  | b :: bs => by
    rw [List.length_cons, List.range_succ_eq_map, List.all_cons, List.all_map, List.all_cons, ← all_range bs]
    all_goals rfl
section
variable {X : Cx}
def rAll (K : PySem.W.Frag) : List V → Hp → VK → Prop := fun vs H Q => ∃ (a : Addr) (bs : List Bool), vs = [V.ref a] ∧ SqL K H a (bs.map V.bl) ∧ Q (.bl (bs.all id)) H
theorem cr_all (hc : X.calm = true) : CallR X (.builtin "all") (rAll X.K) := by
  intro pins s σ H vs us Q I r h
  obtain ⟨a, bs, rfl, hs, q⟩ := h
  obtain ⟨its, rv, hl, _⟩ := I.list hs
  rw [Vals.ref1 r]
  have hb := rv.bls
  refine call_all_walk (iter_any hl.isList fun s₂ e2 st hne => ?_)
  subst e2
  refine ⟨_, _, _, _, _, _, _, rfl, Walks.list (A := X.A.in1) (I.ok.hd hc) _ a hne its.toArray, st, truth_bools hb, fun h' tk hk => ?_⟩
  refine ⟨.bl _, H, I.kept fun b o eo => hk b o (fun hmem => ?_) (Heap.get?_push_of_some _ eo), ?_, q⟩
  · rcases List.mem_cons.mp hmem with e1 | hmem
    · exact absurd (e1 ▸ Heap.lt_size eo) (Nat.lt_irrefl _)
    · cases hmem
  · show Value.bool _ = Value.bool _
    rw [← all_range, hb, List.size_toArray, List.length_map]
end
section
variable {X : Cx} {pins : List (Addr × Obj)} {σ : St} {H : Hp} {s : Shared}
end
section
variable {X : Cx}
end
end L2
namespace L2
open PySem PySem.Spec PyProof.Rows
abbrev CellAt (h : Heap) (c : Addr) (v : Option Value) : Prop := h.IsCell c v
def relS (scope sc : Scope) : Scope :=
  { scope with names := scope.names.map fun (n, k) => if (k == .free && sc.kind == .function && sc.names.lookup n == some .cell) then (n, .cell) else (n, k) }
def cloFrom (cells : List (Str × Addr)) : List (Str × NameKind) → List (Str × Addr) → List (Str × Addr)
  | [], acc => acc
  | (n, k) :: r, acc => if k == .free then cloFrom cells r ((n, (cells.lookup n).getD 0) :: acc) else cloFrom cells r acc
theorem closure_loop (env : Env) (f : Str × NameKind → List (Str × Addr) → Sem (ForInStep (List (Str × Addr))))
    (hf : ∀ n k c, f (n, k) c = if k == .free then (do let a ← cellOf env n; pure (.yield ((n, a) :: c))) else pure (.yield c)) :
    ∀ (names : List (Str × NameKind)) (acc : List (Str × Addr)), (∀ y ∈ names, y.2 = .free → ∃ c, env.cells.lookup y.1 = some c) → forIn names acc f = pure (cloFrom env.cells names acc)
  | [], acc, _ => by rw [List.forIn_nil]; rfl
  | (n, k) :: r, acc, h => by
    rw [List.forIn_cons, hf]
    have ih := fun acc => closure_loop env f hf r acc fun y hy => h y (List.mem_cons_of_mem _ hy)
    unfold cloFrom
    by_cases hk : (k == NameKind.free) = true
    · rw [if_pos hk, if_pos hk]
      obtain ⟨c, hc⟩ := h (n, k) List.mem_cons_self (by simpa using hk)
      have e : cellOf env n = pure c := by unfold cellOf; rw [hc]
      rw [e]
      have e2 : (env.cells.lookup n).getD 0 = c := by rw [hc]; rfl
      rw [e2]
      exact ih _
    · rw [if_neg hk, if_neg hk]
      exact ih _
theorem closure_ok {scope : Scope} {env : Env} (h : ∀ y ∈ scope.names, y.2 = .free → ∃ c, env.cells.lookup y.1 = some c) : closureFor scope env = pure (cloFrom env.cells scope.names []) := by
  simp only [closureFor]
  rw [closure_loop env _ (fun n k c => rfl) scope.names [] h]
  rfl
theorem mem_lookup {α : Type} : ∀ {l : List (Str × α)} {n : Str} {c : α}, (n, c) ∈ l → ∃ c', l.lookup n = some c'
  | (k, v) :: r, n, c, h => by
    rw [List.lookup_cons]
    cases hb : n == k with
    | true => exact ⟨_, rfl⟩
    | false =>
      rcases List.mem_cons.mp h with e | h
      · cases e; simp at hb
      · exact mem_lookup h
theorem cloFrom_mem {cells : List (Str × Addr)} : ∀ {names : List (Str × NameKind)} {acc : List (Str × Addr)} {n : Str} {c : Addr}, (n, c) ∈ cloFrom cells names acc → (n, c) ∈ acc ∨ ((n, .free) ∈ names ∧ c = (cells.lookup n).getD 0)
  | [], _, _, _, h => .inl h
  | (m, k) :: r, acc, n, c, h => by
    unfold cloFrom at h
    split at h
    · rename_i hk
      have hk : k = .free := by simpa using hk
      rcases cloFrom_mem h with h | ⟨h1, h2⟩
      · rcases List.mem_cons.mp h with e | h
        · cases e; exact .inr ⟨hk ▸ List.mem_cons_self, rfl⟩
        · exact .inl h
      · exact .inr ⟨List.mem_cons_of_mem _ h1, h2⟩
    · rcases cloFrom_mem h with h | ⟨h1, h2⟩
      · exact .inl h
      · exact .inr ⟨List.mem_cons_of_mem _ h1, h2⟩
theorem cloFrom_acc {cells : List (Str × Addr)} : ∀ {names : List (Str × NameKind)} {acc : List (Str × Addr)} {p : Str × Addr}, p ∈ acc → p ∈ cloFrom cells names acc
  | [], _, _, h => h
  | (m, k) :: r, acc, p, h => by
    unfold cloFrom
    split
    · exact cloFrom_acc (List.mem_cons_of_mem _ h)
    · exact cloFrom_acc h
theorem cloFrom_has {cells : List (Str × Addr)} : ∀ {names : List (Str × NameKind)} {acc : List (Str × Addr)} {n : Str}, (n, .free) ∈ names → (n, (cells.lookup n).getD 0) ∈ cloFrom cells names acc
  | (m, k) :: r, acc, n, h => by
    unfold cloFrom
    rcases List.mem_cons.mp h with e | h
    · cases e
      exact cloFrom_acc List.mem_cons_self
    · split
      · exact cloFrom_has h
      · exact cloFrom_has h
theorem cells_mem : ∀ {names : List (Str × NameKind)} {h : Heap} {acc : List (Str × Addr)} {x : Str} {c : Addr}, (x, c) ∈ cellsFrom h.objs.size names acc →
    (x, c) ∈ acc ∨ ((x, .cell) ∈ names ∧ h.objs.size ≤ c ∧ CellAt (pushCells h names) c none)
  | [], _, _, _, _, h => .inl h
  | (n, k) :: r, h, acc, x, c, hm => by
    unfold cellsFrom at hm
    unfold pushCells
    split at hm
    · rename_i hk
      rw [if_pos hk]
      have hk : k = .cell := by simpa using hk
      rw [← Heap.size_push h { cls := .type "cell", data := .cell none }] at hm
      rcases cells_mem hm with hm | ⟨h1, h2, h3⟩
      · rcases List.mem_cons.mp hm with e | hm
        · cases e
          exact .inr ⟨hk ▸ List.mem_cons_self, Nat.le_refl _, _, pushCells_keeps r _ _ _ (Heap.get?_push_size _ rfl), rfl⟩
        · exact .inl hm
      · rw [Heap.size_push] at h2
        exact .inr ⟨List.mem_cons_of_mem _ h1, Nat.le_of_succ_le h2, h3⟩
    · rename_i hk
      rw [if_neg hk]
      rcases cells_mem hm with hm | ⟨h1, h2, h3⟩
      · exact .inl hm
      · exact .inr ⟨List.mem_cons_of_mem _ h1, h2, h3⟩
theorem cells_acc : ∀ {names : List (Str × NameKind)} {n : Nat} {acc : List (Str × Addr)} {p : Str × Addr}, p ∈ acc → p ∈ cellsFrom n names acc
  | [], _, _, _, h => h
  | (m, k) :: r, n, acc, p, h => by
    unfold cellsFrom
    split
    · exact cells_acc (List.mem_cons_of_mem _ h)
    · exact cells_acc h
theorem cells_has : ∀ {names : List (Str × NameKind)} {n : Nat} {acc : List (Str × Addr)} {x : Str}, (x, .cell) ∈ names → ∃ c, (x, c) ∈ cellsFrom n names acc
  | (m, k) :: r, n, acc, x, h => by
    unfold cellsFrom
    rcases List.mem_cons.mp h with e | h
    · cases e
      exact ⟨n, cells_acc List.mem_cons_self⟩
    · split
      · exact cells_has h
      · exact cells_has h
theorem cells_inj : ∀ {names : List (Str × NameKind)} {h : Heap} {acc : List (Str × Addr)} {x y : Str} {c : Addr}, (∀ p ∈ acc, p.2 < h.objs.size) → (∀ x y c, (x, c) ∈ acc → (y, c) ∈ acc → x = y) →
    (x, c) ∈ cellsFrom h.objs.size names acc → (y, c) ∈ cellsFrom h.objs.size names acc → x = y
  | [], _, _, _, _, _, _, hi, h1, h2 => hi _ _ _ h1 h2
  | (n, k) :: r, h, acc, x, y, c, hl, hi, h1, h2 => by
    unfold cellsFrom at h1 h2
    split at h1
    · rename_i hk
      rw [if_pos hk] at h2
      rw [← Heap.size_push h { cls := .type "cell", data := .cell none }] at h1 h2
      refine cells_inj (h := h.push _) (fun p hp => ?_) (fun x y c a b => ?_) h1 h2
      · rw [Heap.size_push]
        rcases List.mem_cons.mp hp with rfl | hp
        · exact Nat.lt_succ_self _
        · exact Nat.lt_succ_of_lt (hl p hp)
      · rcases List.mem_cons.mp a with e | a <;> rcases List.mem_cons.mp b with e' | b
        · cases e; cases e'; rfl
        · cases e; exact absurd (hl _ b) (Nat.lt_irrefl _)
        · cases e'; exact absurd (hl _ a) (Nat.lt_irrefl _)
        · exact hi _ _ _ a b
    · rename_i hk
      rw [if_neg hk] at h2
      exact cells_inj hl hi h1 h2
theorem newEnv_comp {M : Model} {A : Around} {E : Value → Shared → Prop} {s : Shared} {scope : Scope} {globals : Addr} {closure : List (Str × Addr)} {qual : Str} {func : Option Addr} {code : Value} {around : Env} {builtins : Addr} {Q : Env → Shared → Prop}
    (h : Q (newEnv scope s.heap.objs.size globals (cellsFrom (s.heap.objs.size + 1) scope.names closure) qual func code (some around) builtins)
      { s with heap := pushCells (s.heap.push { cls := .type "dict", data := .dict #[] }) scope.names }) :
    wpAny M A (newFunctionEnv scope globals closure [] qual func code (some around) builtins) Q E s := by
  simp only [newFunctionEnv, Option.isSome_some, if_true]
  refine wpAny_bind (wpAny_alloc ?_)
  refine wpAny_bind (wpAny_layCells _ (fun n k c => rfl) scope.names closure _ _ ?_)
  rw [show ({ s with heap := s.heap.push { cls := .type "dict", data := .dict #[] } } : Shared).heap.objs.size = s.heap.objs.size + 1 from Heap.size_push ..]
  rw [List.forIn_nil]
  exact wpAny_bind (wpAny_pure (wpAny_pure h))
theorem lookup_relS {sc : Scope} : ∀ {names : List (Str × NameKind)} {x : Str} {k : NameKind},
    (names.map fun (n, k) => if (k == NameKind.free && sc.kind == .function && sc.names.lookup n == some .cell) then (n, NameKind.cell) else (n, k)).lookup x = some k →
    ∃ k', names.lookup x = some k' ∧ (k = k' ∨ (k' = .free ∧ k = .cell))
  | [], _, _, h => by simp at h
  | (n, k₀) :: r, x, k, h => by
    have ih := @lookup_relS sc r x k
    have h' : List.lookup x ((if (k₀ == NameKind.free && sc.kind == .function && sc.names.lookup n == some .cell) = true then (n, NameKind.cell) else (n, k₀)) :: (r.map _)) = some k := h
    cases hx : x == n with
    | true =>
      simp only [List.lookup_cons, hx]
      by_cases hc : (k₀ == NameKind.free && sc.kind == .function && sc.names.lookup n == some .cell) = true
      · rw [if_pos hc] at h'
        simp only [List.lookup_cons, hx] at h'
        cases h'
        simp only [Bool.and_eq_true, beq_iff_eq] at hc
        exact ⟨k₀, rfl, .inr ⟨hc.1.1, rfl⟩⟩
      · rw [if_neg hc] at h'
        simp only [List.lookup_cons, hx] at h'
        cases h'
        exact ⟨_, rfl, .inl rfl⟩
    | false =>
      simp only [List.lookup_cons, hx]
      by_cases hc : (k₀ == NameKind.free && sc.kind == .function && sc.names.lookup n == some .cell) = true
      · rw [if_pos hc] at h'
        simp only [List.lookup_cons, hx] at h'
        exact ih h'
      · rw [if_neg hc] at h'
        simp only [List.lookup_cons, hx] at h'
        exact ih h'
structure BlkOk (N : List Str) (sc scope : Scope) (own : List (Str × Nat)) : Prop where
  kind : scope.kind = .function
  uniq : ∀ y ∈ scope.names, scope.names.lookup y.1 = some y.2
  ix : ∀ p ∈ own, N[p.2]? = some p.1
  free : ∀ y ∈ scope.names, y.2 = .free → sc.names.lookup y.1 = some .cell ∨ sc.names.lookup y.1 = some .free
  own : ∀ y ∈ scope.names, y.2 = .local ∨ y.2 = .cell → y.1 ∈ own.map (·.1) ∨ y.1 ∉ N
def wipe (σ : St) : List Nat → St
  | [] => σ
  | v :: vs => (wipe σ vs).set v none
theorem wipe_length (σ : St) : ∀ vs : List Nat, (wipe σ vs).length = σ.length
  | [] => rfl
  | v :: vs => by unfold wipe; rw [List.length_set, wipe_length σ vs]
theorem wipe_some {σ : St} {i : Nat} {x : V} : ∀ {vs : List Nat}, (wipe σ vs)[i]? = some (some x) → σ[i]? = some (some x) ∧ i ∉ vs
  | [], h => ⟨h, by simp⟩
  | v :: vs, h => by
    unfold wipe at h
    by_cases hi : v = i
    · subst hi
      by_cases hv : v < (wipe σ vs).length
      · rw [List.getElem?_set_self hv] at h; cases h
      · rw [List.getElem?_eq_none (by simpa using hv)] at h; cases h
    · rw [List.getElem?_set_ne hi] at h
      obtain ⟨h1, h2⟩ := wipe_some h
      exact ⟨h1, by simp only [List.mem_cons, not_or]; exact ⟨fun e => hi e.symm, h2⟩⟩
abbrev Cx.blk (X : Cx) (s : Shared) (H : Hp) (scope : Scope) (cenv : Env) (fp : List Addr) : Cx := { X with s_0 := s, H_0 := H, env := cenv, outer := X.stack, ex := fp, fn := fun x => scope.names.lookup x == some .cell, pn := [], xe := fun _ _ => False }
section
variable {X : Cx} {pins : List (Addr × Obj)} {σ : St} {H : Hp} {s : Shared}
theorem block_start {scope : Scope} {own : List (Str × Nat)} {fp : List Addr} (I : Inv X pins σ H s) (ok : BlkOk X.N X.env.scope scope own) (hN : X.N.Nodup) (hfp : ∀ b ∈ fp, FpOk X pins H b ∧ b < s.heap.objs.size) :
    Inv (X.blk s H scope (compEnvC scope (cellsFrom (s.heap.objs.size + 1) scope.names (cloFrom X.env.cells scope.names [])) s.heap.objs.size X.env) fp) [] (wipe σ (own.map (·.2))) H { s with heap := pushCells (s.heap.push { cls := .type "dict", data := .dict #[] }) scope.names } := by
  have hfree : ∀ y ∈ scope.names, y.2 = .free → ∃ c, X.env.cells.lookup y.1 = some c := fun y hy e => by
    rcases ok.free y hy e with k | k
    · exact I.ok.has _ (.inl k)
    · exact I.ok.has _ (.inr k)
  generalize hcenv : compEnvC scope (cellsFrom (s.heap.objs.size + 1) scope.names (cloFrom X.env.cells scope.names [])) s.heap.objs.size X.env = cenv
  have kp : ∀ b o, s.heap.get? b = some o → (pushCells (s.heap.push { cls := .type "dict", data := .dict #[] }) scope.names).get? b = some o := fun b o e => pushCells_keeps _ _ _ _ (Heap.get?_push_of_some _ e)
  have hL : cenv.locals = s.heap.objs.size := by rw [← hcenv]; rfl
  have hcl : cenv.cells = cellsFrom (s.heap.objs.size + 1) scope.names (cloFrom X.env.cells scope.names []) := by rw [← hcenv]; rfl
  have hsc : cenv.scope = relS scope X.env.scope := by rw [← hcenv]; rfl
  rw [← Heap.size_push s.heap { cls := .type "dict", data := .dict #[] }] at hcl
  have cm : ∀ {y c}, (y, c) ∈ cloFrom X.env.cells scope.names [] → X.env.cells.lookup y = some c ∧ c < s.heap.objs.size := fun {y c} hm => by
    rcases cloFrom_mem hm with hm | ⟨h1, rfl⟩
    · cases hm
    · obtain ⟨c, hc⟩ := hfree _ h1 rfl
      rw [hc]
      obtain ⟨w, z⟩ := I.cell _ _ hc
      exact ⟨rfl, z.lt⟩
  have mem : ∀ {y c}, cenv.cells.lookup y = some c → (X.env.cells.lookup y = some c ∧ c < s.heap.objs.size) ∨ (s.heap.objs.size + 1 ≤ c ∧ CellAt (pushCells (s.heap.push { cls := .type "dict", data := .dict #[] }) scope.names) c none) := fun {y c} e => by
    rw [hcl] at e
    rcases cells_mem (PySem.mem_of_lookup e) with hm | ⟨_, h2, h3⟩
    · exact .inl (cm hm)
    · rw [Heap.size_push] at h2; exact .inr ⟨h2, h3⟩
  have look : ∀ {y}, scope.names.lookup y = some .free → ∃ c, cenv.cells.lookup y = some c ∧ X.env.cells.lookup y = some c := fun {y} hl => by
    have hy : (y, NameKind.free) ∈ scope.names := PySem.mem_of_lookup hl
    obtain ⟨c', e'⟩ := mem_lookup (cells_acc (names := scope.names) (n := (s.heap.push { cls := .type "dict", data := .dict #[] }).objs.size) (cloFrom_has (cells := X.env.cells) (acc := []) hy))
    rw [← hcl] at e'
    refine ⟨c', e', ?_⟩
    rw [hcl] at e'
    rcases cells_mem (PySem.mem_of_lookup e') with hm | ⟨h1, _, _⟩
    · exact (cm hm).1
    · have := ok.uniq _ h1
      rw [hl] at this; cases this
  have okB : (X.blk s H scope cenv fp).Ok := by
    refine ⟨I.ok.mod, by show cenv.scope.kind = _; rw [hsc]; exact ok.kind, by show cenv.globals = _; rw [← hcenv]; exact I.ok.glob, by show cenv.builtins = _; rw [← hcenv]; exact I.ok.blt, by show s.heap.objs.size ≤ cenv.locals; rw [hL]; exact Nat.le_refl _,
      fun y z c e1 e2 => ?_, fun y hy => ?_, fun y c z e => ?_, I.ok.hd, I.ok.frames, .inl rfl, fun b hb => ⟨?_, fun y c e z => ?_⟩, I.bs, Nat.le_trans I.ok.bsz I.sz, fun b o e hb => ?_, fun b hb z => ?_, I.stack, I.stkFree⟩
    · have e1 : cenv.cells.lookup y = some c := e1
      have e2 : cenv.cells.lookup z = some c := e2
      rw [hcl] at e1 e2
      refine cells_inj (fun p hp => ?_) (fun y z c a b => I.ok.inj y z c (cm a).1 (cm b).1) (PySem.mem_of_lookup e1) (PySem.mem_of_lookup e2)
      rw [Heap.size_push]
      exact Nat.lt_succ_of_lt (cm (y := p.1) (c := p.2) hp).2
    · show ∃ c, cenv.cells.lookup y = some c
      have key : ∀ k, cenv.kindOf y = some k → (k = .cell ∨ k = .free) → ∃ c, cenv.cells.lookup y = some c := fun k hk hk' => by
        unfold Env.kindOf at hk
        rw [hsc] at hk
        obtain ⟨k', e, r⟩ := lookup_relS hk
        have : k' = .cell ∨ k' = .free := by
          rcases r with rfl | ⟨rfl, _⟩
          · exact hk'
          · exact .inr rfl
        rcases this with rfl | rfl
        · obtain ⟨c, hm⟩ := cells_has (n := (s.heap.push { cls := .type "dict", data := .dict #[] }).objs.size) (acc := cloFrom X.env.cells scope.names []) (PySem.mem_of_lookup e)
          obtain ⟨c', e'⟩ := mem_lookup hm
          exact ⟨c', by rw [hcl]; exact e'⟩
        · obtain ⟨c, h1, _⟩ := look e
          exact ⟨c, h1⟩
      rcases hy with hy | hy
      · exact key _ hy (.inl rfl)
      · exact key _ hy (.inr rfl)
    · have z : (scope.names.lookup y == some NameKind.cell) = true := z
      have z : scope.names.lookup y = some .cell := by simpa using z
      have e : cenv.cells.lookup y = some c := e
      rw [hcl] at e
      rcases cells_mem (PySem.mem_of_lookup e) with hm | ⟨_, h2, _⟩
      · rcases cloFrom_mem hm with hm | ⟨h1, _⟩
        · cases hm
        · have q := ok.uniq _ h1
          rw [z] at q; cases q
      · rw [Heap.size_push] at h2
        exact Nat.le_of_succ_le h2
    · show b ≠ cenv.locals
      rw [hL]; exact Nat.ne_of_lt (hfp b hb).2
    · have e : cenv.cells.lookup y = some c := e
      rcases mem e with ⟨h1, _⟩ | ⟨h1, _⟩
      · exact (hfp b hb).1.2.2.2.2.1 y c h1 z
      · have h2 : s.heap.objs.size + 1 ≤ b := by rw [← z]; exact h1
        exact absurd (Nat.lt_of_lt_of_le (hfp b hb).2 (Nat.le_of_succ_le h2)) (Nat.lt_irrefl _)
    · rcases (hfp b hb).1.2.2.2.1 with z | z
      · exact I.ok.noex b o e z
      · exact absurd (Nat.lt_of_lt_of_le (Heap.lt_size e) (Nat.le_trans I.ok.bsz z)) (Nat.lt_irrefl _)
    · rcases List.mem_cons.mp (I.stkSub b z) with z | z
      · exact (hfp b hb).1.2.1 z
      · exact (hfp b hb).1.2.2.1 z
  refine ⟨okB, rfl, I.bare, Un.kept kp, ⟨fun _ => none, ?_, fun i y av e1 e2 e3 => ?_⟩, fun y c e => ?_, ?_, fun y c e => ?_, fun p hp => ?_, I.hok.kept kp, by rw [wipe_length]; exact I.len⟩
  · show Heap.Ns _ cenv.locals _
    rw [hL]
    exact Heap.Ns.keeps (Heap.Ns.new ..) fun b o e => pushCells_keeps _ _ _ _ e
  · obtain ⟨e2, hne⟩ := wipe_some e2
    have hfr : scope.names.lookup y = some .free ∧ (cenv.kindOf y = some .cell ∨ cenv.kindOf y = some .free) := by
      have key : ∀ k, cenv.scope.names.lookup y = some k → k = .local ∨ k = .cell ∨ k = .free → scope.names.lookup y = some .free ∧ (cenv.kindOf y = some .cell ∨ cenv.kindOf y = some .free) := fun k hk hk' => by
        have hk0 := hk
        rw [hsc] at hk
        obtain ⟨k', e, r⟩ := lookup_relS hk
        have no : ¬ (k' = .local ∨ k' = .cell) := fun hh => by
          rcases ok.own _ (PySem.mem_of_lookup e) hh with e' | e'
          · obtain ⟨p, hp, hpy⟩ := List.mem_map.mp e'
            have e3 := ok.ix p hp
            have : p.1 = y := hpy
            rw [this] at e3
            exact hne (List.mem_map.mpr ⟨p, hp, nodup_ix hN e3 e1⟩)
          · exact e' (List.mem_of_getElem? e1)
        rcases r with rfl | ⟨rfl, rfl⟩
        · rcases hk' with rfl | rfl | rfl
          · exact absurd (.inl rfl) no
          · exact absurd (.inr rfl) no
          · exact ⟨e, .inr hk0⟩
        · exact ⟨e, .inl hk0⟩
      have e3 : Vis cenv.scope y := e3
      rcases e3 with e3 | e3 | e3
      · exact key _ e3 (.inl rfl)
      · exact key _ e3 (.inr (.inl rfl))
      · exact key _ e3 (.inr (.inr rfl))
    obtain ⟨m, hn, hl⟩ := I.loc
    have hvis : Vis X.env.scope y := (ok.free _ (PySem.mem_of_lookup hfr.1) rfl).elim (fun k => .inr (.inl k)) (fun k => .inr (.inr k))
    obtain ⟨w, r, q⟩ := hl i y av e1 e2 hvis
    refine ⟨w, r, .inr ⟨hfr.2, ?_⟩⟩
    obtain ⟨c, h1, h2⟩ := look hfr.1
    rcases q with ⟨k, _⟩ | ⟨_, c', e', z⟩
    · have k : X.env.scope.names.lookup y = some .local := k
      rcases ok.free _ (PySem.mem_of_lookup hfr.1) rfl with k' | k' <;> rw [show X.env.scope.names.lookup y = _ from k'] at k <;> cases k
    · rw [h2] at e'; cases e'
      exact ⟨c, h1, z.keeps kp⟩
  · have e : cenv.cells.lookup y = some c := e
    rcases mem e with ⟨h1, _⟩ | ⟨_, z⟩
    · obtain ⟨w, z⟩ := I.cell y c h1
      exact ⟨w, z.keeps kp⟩
    · exact ⟨_, z⟩
  · show H cenv.locals = none
    rw [hL]; exact I.hok.fresh (Nat.le_refl _)
  · have e : cenv.cells.lookup y = some c := e
    rcases mem e with ⟨h1, _⟩ | ⟨h1, _⟩
    · exact I.freeC y c h1
    · exact I.hok.fresh (Nat.le_of_succ_le h1)
  · exact absurd (show p ∈ ([] : List (Addr × Obj)) ++ [] from hp) (by simp)
theorem app_ok {E : Value → Shared → Prop} {D : Addr} {xs : List V} {y : V} {v : Value} {Q : Value → Shared → Prop} (I : Inv X pins σ H s) (hD : H D = some (.lst xs)) (hz : xs.length < sizeLine) (r : RelV y v)
    (h : ∀ s', Inv X pins σ (upd H D (.lst (xs ++ [y]))) s' → Q .none s') : wpAny (model X.prog X.w) X.A (call (.builtin "list.append") [.ref D, v]) Q E s := by
  obtain ⟨hz', its, n, ri, e⟩ := I.hok D _ hD
  have hl := ri.length
  refine append_at (hsz := by rw [List.size_toArray]; omega) e fun h' sb ho' => ?_
  refine h { s with heap := h' } (I.write (t' := s.toks) (by rw [hD]; trivial) (.inl rfl) (fun b u hb q => (sb.2 b hb).trans q) ⟨_, ho'⟩ ⟨by rw [List.length_append]; exact hz, its ++ [v], n + 1, ri.append (.cons r .nil), ?_⟩)
  rw [ho']
  simp
def PTs (X : Cx) (ifs : List Expr) (t : TT) : Prop :=
  ∀ (pins : List (Addr × Obj)) (s : Shared) (σ : St) (H : Hp) (Q : Bool → Hp → Prop), Inv X pins σ H s → t σ H Q →
    wpAny (model X.prog X.w) X.A (forIn ifs true fun c r => if r = true then do let ok ← isTrue c X.env (eval c X.env); pure (ForInStep.yield ok) else pure (ForInStep.yield r)) (TP X pins σ Q) X.xe s
def tYes : TT := fun _ H Q => Q true H
theorem pts_nil : PTs X [] tYes := fun _ _ _ H _ I h => wpAny_tests_nil ⟨H, I, h⟩
end
theorem thnF {α : Type} {t : Sem α} {Q Q' : α → Shared → Prop} {M : Model} {A : Around} {E : Value → Shared → Prop} {s : Shared} (h : wpAny M A t Q (fun _ _ => False) s) (hQ : ∀ a s, Q a s → Q' a s) : wpAny M A t Q' E s := wpAny_mono h hQ fun _ _ z => False.elim z
theorem compLoop_any {prog : Program} {w : World} {A : Around} {R : Result → Shared → Prop} {s : Shared} {elt target iter : Expr} {ifs : List Expr} {scope : Scope} {pos : Pos} {it acc : Value} {env : Env} (I : Nat → Shared → Prop)
    (turn : ∀ n s, I n s → wpAny (model prog w) A (pyNext it) (fun r s₁ => match r with
      | none => R (.ok .next) s₁
      | some v => wpAny (model prog w) A (letOwnedTupleGo target it v) (fun _ s₁' => wpAny (model prog w) A (assign target env v) (fun _ s₂ =>
          wpAny (model prog w) A (forIn ifs true fun c r => if r = true then do let ok ← isTrue c env (eval c env); pure (ForInStep.yield ok) else pure (ForInStep.yield r)) (fun ok s₃ =>
            if ok = true then wpAny (model prog w) A (eval elt env) (fun x s₄ =>
              wpAny (model prog w) A (call (.builtin "list.append") [acc, x]) (fun _ s₅ => ∃ m, m < n ∧ I m s₅) (notedBy (model prog w) A env fun e s' => R (.error e) s') s₄) (notedBy (model prog w) A env fun e s' => R (.error e) s') s₃
            else ∃ m, m < n ∧ I m s₃) (notedBy (model prog w) A env fun e s' => R (.error e) s') s₂) (notedBy (model prog w) A env fun e s' => R (.error e) s') s₁') (notedBy (model prog w) A env fun e s' => R (.error e) s') s₁) (notedBy (model prog w) A env fun e s' => R (.error e) s') s)
    (n : Nat) (h : I n s) :
    codeAny (model prog w) A (.compLoop (.ListComp elt [⟨target, iter, ifs, 0⟩] scope pos) 0 it acc env) R s := by
  refine codeAny_loop rfl I (fun n s hI => ?_) n h
  show wpAny _ A ((compTurn (.ListComp elt [⟨target, iter, ifs, 0⟩] scope pos) 0 it acc env).onRaise (fun x => do noteFrame x env; theTreesLotGoes x)) _ _ s
  refine wpAny_noted ?_
  rw [compTurn_list]
  refine wpAny_bind (wpAny_standAt (wpAny_bind (wpAny_mono (turn n s hI) (fun r s₁ h₁ => ?_) fun _ _ h' => h')))
  cases r with
  | none => exact wpAny_pure h₁
  | some v =>
    refine wpAny_bind (wpAny_mono h₁ (fun _ s₁' h₁' => ?_) fun _ _ h' => h')
    refine wpAny_bind (wpAny_mono h₁' (fun _ s₂ h₂ => wpAny_bind (wpAny_mono h₂ (fun ok s₃ h₃ => ?_) fun _ _ h' => h')) fun _ _ h' => h')
    cases ok with
    | false => exact wpAny_pure ⟨rfl, h₃⟩
    | true =>
      exact wpAny_bind (wpAny_bind (wpAny_mono h₃ (fun x s₄ h₄ => wpAny_bind (wpAny_mono h₄ (fun _ s₅ h₅ => wpAny_pure (wpAny_pure ⟨rfl, h₅⟩)) fun _ _ h' => h')) fun _ _ h' => h'))
section
variable {X : Cx}
def tLc (wi : TI) (g : TG) (tt : TT) (te : TE) (vs : List Nat) : TE := fun σ H Q => wi σ H fun J H1 => ∀ D, H1 D = none → ∃ W : Nat → Nat → Hp → Prop, (∃ m, W 0 m (upd H1 D (.lst []))) ∧ ∀ i m H, W i m H →
  (J.stop i H ∧ Q (.ref D) H) ∨ (J.go i H ∧ ∃ Nx : Hp → Prop, (∀ H', Nx H' → ∃ m', m' < m ∧ W (i + 1) m' H') ∧ ∀ x H', J.yld i H x H' → g x (wipe σ vs) H' fun σ2 H2 => wipe σ2 vs = wipe σ vs ∧ tt σ2 H2 fun b H3 =>
    if b = true then te σ2 H3 fun y H4 => ∃ acc, H4 D = some (.lst acc) ∧ acc.length < sizeLine ∧ Nx (upd H4 D (.lst (acc ++ [y]))) else Nx H3)
theorem lc_core {pins : List (Addr × Obj)} {s : Shared} {σ : St} {H : Hp} {Q : VK} {elt tg iter : Expr} {ifs : List Expr} {scope : Scope} {own : List (Str × Nat)} {pos pos' : Pos} {wi : TI} {g : TG} {tt : TT} {te : TE} {use : Option (Value → Sem Unit)} {Qf : Value → Shared → Prop}
    (hc : X.calm = true) (hN : X.N.Nodup) (I : Inv X pins σ H s) (hi : PI X tg iter wi) (ok : BlkOk X.N X.env.scope scope own)
    (hg : ∀ (s : Shared) (H : Hp) (C : Addr) (cl : List (Str × Addr)) (fp : List Addr), PG (X.blk s H scope (compEnvC scope cl C X.env) fp) tg g) (ht : ∀ (s : Shared) (H : Hp) (C : Addr) (cl : List (Str × Addr)) (fp : List Addr), PTs (X.blk s H scope (compEnvC scope cl C X.env) fp) ifs tt)
    (he : ∀ (s : Shared) (H : Hp) (C : Addr) (cl : List (Str × Addr)) (fp : List Addr), PE (X.blk s H scope (compEnvC scope cl C X.env) fp) elt te) (hs : ∀ x, foldedSetIterable iter X.env x = pure x)
    (h : tLc wi g tt te (own.map (·.2)) σ H Q)
    (hRR : ∀ D C s' m H', Inv X pins σ H' s' → Q (.ref D) H' → s'.heap.Ns C m → FpOk X pins H' C → compPost (model X.prog X.w) X.A X.xe use Qf (.ref D) C (.ok .next) s') :
    wpAny (model X.prog X.w) X.A (comprehension (.ListComp elt [⟨tg, iter, ifs, 0⟩] scope pos) scope X.env pos' (newList []) false (eval iter X.env) use) Qf X.xe s := by
  have hfree : ∀ y ∈ scope.names, y.2 = .free → ∃ c, X.env.cells.lookup y.1 = some c := fun y hy e => by
    rcases ok.free y hy e with k | k
    · exact I.ok.has _ (.inl k)
    · exact I.ok.has _ (.inr k)
  refine wpAny_comprehension_free (use := use) rfl hs (closure_ok hfree) ok.kind (fun y hy e => by rw [ok.uniq y hy, e])
    (thn (hi pins s σ H _ I h) fun xv s1 hx => thn hx fun itv s2 h2 => ?_)
  obtain ⟨it, fp, tn, J, H2, e, I2, T, st2, f2, q⟩ := h2
  subst e
  refine wpAny_newObj_type (newEnv_comp ?_) (by show 0 ≤ sizeLine; decide)
  generalize hD : s2.heap.objs.size = D
  have hDn : H2 D = none := I2.hok.fresh (Nat.le_of_eq hD)
  obtain ⟨W, ⟨m0, w0⟩, turn⟩ := q D hDn
  generalize hs3 : ({ s2 with heap := s2.heap.push { cls := .type "list", data := .seq ([] : List Value).toArray } } : Shared) = s3
  have I3 : Inv X pins σ (upd H2 D (.lst [])) s3 := by
    rw [← hs3]
    refine I2.laid (t' := s2.toks) (fun b o e => Heap.get?_push_of_some _ e) (Nat.le_of_eq hD) ⟨Nat.zero_le _, [], 0, .nil, ?_⟩
    rw [← hD]
    exact Heap.get?_push_size _ rfl
  have h3 : s3.heap = s2.heap.push { cls := .type "list", data := .seq ([] : List Value).toArray } := by rw [← hs3]
  have sz : ∀ b ∈ fp, b < s2.heap.objs.size := fun b hb => by
    obtain ⟨o, e, _⟩ := T.obj _ _ st2 b hb
    exact Heap.lt_size e
  have f3 : ∀ b ∈ fp, FpOk X pins (upd H2 D (.lst [])) b ∧ b < s3.heap.objs.size := fun b hb => by
    have hlt := sz b hb
    refine ⟨⟨?_, (f2 b hb).2⟩, by rw [h3, Heap.size_push]; exact Nat.lt_succ_of_lt hlt⟩
    rw [upd_ne (by rw [← hD]; exact Nat.ne_of_lt hlt)]
    exact (f2 b hb).1
  have st3 : tn 0 s3.heap := T.keep _ _ _ st2 fun b _ o e => by rw [h3]; exact Heap.get?_push_of_some _ e
  have I4 := block_start I3 ok hN f3
  have pg := hg s3 (upd H2 D (.lst [])) s3.heap.objs.size (cellsFrom (s3.heap.objs.size + 1) scope.names (cloFrom X.env.cells scope.names [])) fp
  have pt := ht s3 (upd H2 D (.lst [])) s3.heap.objs.size (cellsFrom (s3.heap.objs.size + 1) scope.names (cloFrom X.env.cells scope.names [])) fp
  have pe := he s3 (upd H2 D (.lst [])) s3.heap.objs.size (cellsFrom (s3.heap.objs.size + 1) scope.names (cloFrom X.env.cells scope.names [])) fp
  show codeAny _ _ (.compStart (.ListComp elt [⟨tg, iter, ifs, 0⟩] scope pos) 0 (.ref it) (.ref D) (compEnvC scope (cellsFrom (s3.heap.objs.size + 1) scope.names (cloFrom X.env.cells scope.names [])) s3.heap.objs.size X.env)) (compPost (model X.prog X.w) X.A X.xe use Qf (.ref D) s3.heap.objs.size) { s3 with heap := pushCells (s3.heap.push { cls := .type "dict", data := .dict #[] }) scope.names }
  have nfp : ∀ b ∈ fp, (upd H2 D (.lst [])) b = none := fun b hb => (f3 b hb).1.1
  generalize hce : compEnvC scope (cellsFrom (s3.heap.objs.size + 1) scope.names (cloFrom X.env.cells scope.names [])) s3.heap.objs.size X.env = ce at I4 pg pt pe ⊢
  have cL : ce.locals = s3.heap.objs.size := by subst hce; rfl
  generalize hH3 : upd H2 D (.lst []) = H3 at I3 I4 pg pt pe w0 nfp f3
  generalize hs4 : ({ s3 with heap := pushCells (s3.heap.push { cls := .type "dict", data := .dict #[] }) scope.names } : Shared) = s4 at I4 ⊢
  have st4 : tn 0 s4.heap := T.keep _ _ _ st3 fun b _ o e => by rw [← hs4]; exact pushCells_keeps _ _ _ _ (Heap.get?_push_of_some _ e)
  have stat : ∀ {σ' : St} {H' : Hp} {s' : Shared}, Inv (X.blk s3 H3 scope ce fp) [] σ' H' s' → (∀ b ∈ fp, H' b = none) → ∀ b ∈ fp, FpOk (X.blk s3 H3 scope ce fp) [] H' b := fun {σ' H' s'} I' hn b hb =>
    ⟨hn b hb, (I'.ok.exf b hb).1, I'.ok.exfs b hb, .inl hb, fun x c e => (I'.ok.exf b hb).2 x c e, fun p hp => absurd (show p ∈ ([] : List (Addr × Obj)) ++ [] from hp) (by simp)⟩
  have loop : codeAny (model X.prog X.w) X.A (.compLoop (.ListComp elt [⟨tg, iter, ifs, 0⟩] scope pos) 0 (.ref it) (.ref D) ce) (compPost (model X.prog X.w) X.A X.xe use Qf (.ref D) s3.heap.objs.size) s4 := by
    refine compLoop_any (fun n s' => ∃ i H', Inv (X.blk s3 H3 scope ce fp) [] (wipe σ (own.map (·.2))) H' s' ∧ tn i s'.heap ∧ (∀ b ∈ fp, H' b = none) ∧ W i n H') ?_ m0 ⟨0, H3, I4, st4, nfp, w0⟩
    rintro n s5 ⟨i, H5, I5, st5, n5, w5⟩
    rcases turn i n H5 w5 with ⟨stop, qq⟩ | ⟨go, Nx, hNx, step⟩
    · have td := T.done (X.blk s3 H3 scope ce fp) rfl rfl rfl hc i [] s5 _ H5 (fun _ _ => False) I5 (stat I5 n5) st5 stop
      refine thnF td fun r s6 ⟨hr, I6⟩ => ?_
      subst hr
      have I7 : Inv X pins σ H5 s6 := I3.call' (ch := fp) I6.os I6.base I6.hok I6.bare fun b hb => ⟨(f3 b hb).1.2.2.2.1, (f3 b hb).1.2.1, (f3 b hb).1.2.2.2.2.1, (f3 b hb).1.2.2.2.2.2⟩
      have nC : H5 s3.heap.objs.size = none := by
        have z : H5 ce.locals = none := I6.free
        rw [cL] at z
        exact z
      obtain ⟨m, hn, _⟩ := I6.loc
      have hn : s6.heap.Ns ce.locals m := hn
      rw [cL] at hn
      exact hRR D s3.heap.objs.size s6 m H5 I7 qq hn (I3.fpOk (Nat.le_refl _) nC)
    · have ti := T.item (X.blk s3 H3 scope ce fp) rfl rfl rfl hc i [] s5 _ H5 (fun _ _ => False) I5 (stat I5 n5) st5 go
      refine thnF ti fun r s6 ⟨u, hr, h6⟩ => ?_
      subst hr
      refine thnF h6 fun _ s7 ⟨x, H7, I7, r7, y7, st7, n7⟩ => ?_
      have I7' := I7.pinned (stat I7 n7) (T.obj _ _ st7)
      refine thnF (pg _ s7 _ H7 x u _ I7' r7 (step x H7 y7)) fun _ s8 ⟨σ8, H8, I8, hw8, q8⟩ => ?_
      refine thnF (pt _ s8 σ8 H8 _ I8 q8) fun b s9 ⟨H9, I9, q9⟩ => ?_
      have fin : ∀ {s' : Shared} {H' : Hp}, Inv (X.blk s3 H3 scope ce fp) ([] ++ pinsAt fp s7.heap) σ8 H' s' → Nx H' → ∃ m, m < n ∧ ∃ i H', Inv (X.blk s3 H3 scope ce fp) [] (wipe σ (own.map (·.2))) H' s' ∧ tn i s'.heap ∧ (∀ b ∈ fp, H' b = none) ∧ W i m H' := fun {s' H'} I' nx => by
        obtain ⟨m', hm, w'⟩ := hNx H' nx
        have pin' : ∀ b ∈ fp, ∀ o, s7.heap.get? b = some o → s'.heap.get? b = some o ∧ H' b = none := fun b hb o e =>
          let z := I'.pin (b, o) (List.mem_append_right _ (List.mem_append_right _ (mem_pinsAt hb e)))
          ⟨z.1, z.2.1⟩
        have hl : (wipe σ (own.map (·.2))).length = σ8.length := by rw [← hw8, wipe_length]
        refine ⟨m', hm, i + 1, H', (I'.unpinned (pins := [])).weak hl (fun j v e => ?_), T.keep _ _ _ st7 fun b hb o e => (pin' b hb o e).1, fun b hb => ?_, w'⟩
        · rw [← hw8] at e
          exact (wipe_some e).1
        · obtain ⟨o, e, _⟩ := T.obj _ _ st7 b hb
          exact (pin' b hb o e).2
      cases b with
      | false =>
        simp only [Bool.false_eq_true, if_false] at q9 ⊢
        exact fin I9 q9
      | true =>
        simp only [if_true] at q9 ⊢
        refine thnF (pe _ s9 σ8 H9 _ I9 q9) fun z s10 ⟨yv, H10, I10, r10, acc, hD10, hz10, nx⟩ => ?_
        exact app_ok (X := X.blk s3 H3 scope ce fp) I10 hD10 hz10 r10 fun s11 I11 => fin I11 nx
  exact codeAny_compStart_list loop (T.self X.A 0 _ _ _ st4 loop)
theorem pe_lc {elt tg iter : Expr} {ifs : List Expr} {scope : Scope} {own : List (Str × Nat)} {pos : Pos} {wi : TI} {g : TG} {tt : TT} {te : TE} (hc : X.calm = true) (hN : X.N.Nodup) (hi : PI X tg iter wi) (ok : BlkOk X.N X.env.scope scope own)
    (hg : ∀ (s : Shared) (H : Hp) (C : Addr) (cl : List (Str × Addr)) (fp : List Addr), PG (X.blk s H scope (compEnvC scope cl C X.env) fp) tg g) (ht : ∀ (s : Shared) (H : Hp) (C : Addr) (cl : List (Str × Addr)) (fp : List Addr), PTs (X.blk s H scope (compEnvC scope cl C X.env) fp) ifs tt)
    (he : ∀ (s : Shared) (H : Hp) (C : Addr) (cl : List (Str × Addr)) (fp : List Addr), PE (X.blk s H scope (compEnvC scope cl C X.env) fp) elt te) (hs : ∀ x, foldedSetIterable iter X.env x = pure x := by intro _; rfl) :
    PE X (.ListComp elt [⟨tg, iter, ifs, 0⟩] scope pos) (tLc wi g tt te (own.map (·.2))) := by
  intro pins s σ H Q I h
  rw [eval_ListComp]
  refine lc_core hc hN I hi ok hg ht he hs h fun D C s' m H' I' q hn f => ⟨m, hn, fun h'' sb => ?_⟩
  obtain ⟨f0, f1, f2, f3, f4, f5⟩ := f
  exact ⟨.ref D, H', I'.turned (t' := s'.toks) (fun b o hb e => (sb.2 b hb).trans e) f0 f1 f3 f4 f5, rfl, q⟩
theorem ps_setLc {i : Nat} {y : Str} {py : Pos} {elt tg iter : Expr} {ifs : List Expr} {scope : Scope} {own : List (Str × Nat)} {pos spos : Pos} {wi : TI} {g : TG} {tt : TT} {te : TE} (hc : X.calm = true) (hN : X.N.Nodup) (hy : X.N[i]? = some y) (hyl : X.env.scope.names.lookup y = some .local)
    (hsw : swapsWith (.ListComp elt [⟨tg, iter, ifs, 0⟩] scope pos) (some (.Name y py)) spos.line X.env = pure true) (hi : PI X tg iter wi) (ok : BlkOk X.N X.env.scope scope own)
    (hg : ∀ (s : Shared) (H : Hp) (C : Addr) (cl : List (Str × Addr)) (fp : List Addr), PG (X.blk s H scope (compEnvC scope cl C X.env) fp) tg g) (ht : ∀ (s : Shared) (H : Hp) (C : Addr) (cl : List (Str × Addr)) (fp : List Addr), PTs (X.blk s H scope (compEnvC scope cl C X.env) fp) ifs tt)
    (he : ∀ (s : Shared) (H : Hp) (C : Addr) (cl : List (Str × Addr)) (fp : List Addr), PE (X.blk s H scope (compEnvC scope cl C X.env) fp) elt te) (hs : ∀ x, foldedSetIterable iter X.env x = pure x := by intro _; rfl) :
    PS X (.Assign [.Name y py] (.ListComp elt [⟨tg, iter, ifs, 0⟩] scope pos) spos) (tAsg (tLc wi g tt te (own.map (·.2))) (gName i)) := by
  intro pins s σ H D I h
  rw [exec_Assign_Name_used _ _ _ _ hsw]
  refine wpAny_bind (wpAny_standAt (wpAny_bind ?_))
  show wpAny _ X.A (do let _ ← comprehension (.ListComp elt [⟨tg, iter, ifs, 0⟩] scope pos) scope X.env (firstIterPos [⟨tg, iter, ifs, 0⟩] pos) (newList []) false (eval iter X.env) (some (assign (.Name y py) X.env))) _ _ s
  have h : tLc wi g tt te (own.map (·.2)) σ H (fun x H1 => gName i x σ H1 D.nx) := h
  refine wpAny_bind (thn (lc_core (Qf := fun _ s' => SP X pins D .next s') hc hN I hi ok hg ht he hs h fun L C s' m H' I' q hn f => ?_) fun _ s' hq => wpAny_pure (wpAny_pure hq))
  show wpAny _ _ (assign (.Name y py) X.env (.ref L)) _ _ _
  refine wpAny_assign_Name (store_ok2 (v := V.ref L) I' hN hy (.inl hyl) rfl (fun s2 I2 ⟨a, sb, ha⟩ => ?_) (.inr hyl))
  obtain ⟨f0, f1, f2, f3, f4, f5⟩ := f
  have haC : C ≠ a := by
    rcases ha with z | z
    · rw [z]; exact f1
    · exact fun e => f4 y a z e.symm
  refine ⟨m, hn.sameBut sb haC, fun h3 sb3 => ?_⟩
  exact ⟨_, H', I2.turned (t' := s2.toks) (fun b o hb e => (sb3.2 b hb).trans e) f0 f1 f3 f4 f5, q⟩
theorem sw_true {elt : Expr} {gs : List Comprehension} {scope : Scope} {pos py : Pos} {y : Str} {l : Nat} {env : Env} (hk : env.scope.kind = .function) (hy : env.scope.names.lookup y = some .local) (hl : (py.line == pos.line) = true)
    (ha : (scope.names.any fun (n, k) => n == y && (k == .local || k == .cell)) = false) : swapsWith (.ListComp elt gs scope pos) (some (.Name y py)) l env = pure true := by
  have ky : env.kindOf y = some .local := hy
  have hb : env.blockKind = .function := by unfold Env.blockKind; rw [hk]; rfl
  unfold swapsWith
  simp only [hb, ky, ha, Expr.pos, hl]
  rfl
end
theorem lc_range {lo : Int} {n : Nat} {g : TG} {tt : TT} {te : TE} {vs : List Nat} {σ : St} {H1 : Hp} {D : Addr} {Qd : Hp → Prop} (Pv : Nat → Hp → Prop) (h0 : Pv 0 (upd H1 D (.lst [])))
    (hs : ∀ i H, i < n → Pv i H → g (.int (lo + i)) (wipe σ vs) H fun σ2 H2 => wipe σ2 vs = wipe σ vs ∧ tt σ2 H2 fun b H3 =>
      if b = true then te σ2 H3 fun y H4 => ∃ acc, H4 D = some (.lst acc) ∧ acc.length < sizeLine ∧ Pv (i + 1) (upd H4 D (.lst (acc ++ [y]))) else Pv (i + 1) H3) (hd : ∀ H, Pv n H → Qd H) :
    ∃ W : Nat → Nat → Hp → Prop, (∃ m, W 0 m (upd H1 D (.lst []))) ∧ ∀ i m H, W i m H →
      ((Itr lo n).stop i H ∧ Qd H) ∨ ((Itr lo n).go i H ∧ ∃ Nx : Hp → Prop, (∀ H', Nx H' → ∃ m', m' < m ∧ W (i + 1) m' H') ∧ ∀ x H', (Itr lo n).yld i H x H' → g x (wipe σ vs) H' fun σ2 H2 => wipe σ2 vs = wipe σ vs ∧ tt σ2 H2 fun b H3 =>
        if b = true then te σ2 H3 fun y H4 => ∃ acc, H4 D = some (.lst acc) ∧ acc.length < sizeLine ∧ Nx (upd H4 D (.lst (acc ++ [y]))) else Nx H3) := by
  refine ⟨fun i m H => m = n - i ∧ i ≤ n ∧ Pv i H, ⟨n, by simp, Nat.zero_le _, h0⟩, ?_⟩
  rintro i m H ⟨rfl, hi, p⟩
  by_cases hlt : i < n
  · refine .inr ⟨hlt, Pv (i + 1), fun H' p' => ⟨n - (i + 1), by omega, rfl, hlt, p'⟩, fun x H' y => ?_⟩
    obtain ⟨e, y⟩ := y
    subst e y
    exact hs i _ hlt p
  · have e : i = n := by omega
    subst e
    exact .inl ⟨Nat.le_refl _, hd H p⟩
theorem lc_list {K : PySem.W.Frag} {a : Addr} {xs : List V} {g : TG} {tt : TT} {te : TE} {vs : List Nat} {σ : St} {H1 : Hp} {D : Addr} {Qd : Hp → Prop} (Pv : Nat → Hp → Prop) (h0 : Pv 0 (upd H1 D (.lst []))) (hl : ∀ i H, i ≤ xs.length → Pv i H → SqL K H a xs)
    (hs : ∀ i x H, xs[i]? = some x → Pv i H → g x (wipe σ vs) H fun σ2 H2 => wipe σ2 vs = wipe σ vs ∧ tt σ2 H2 fun b H3 =>
      if b = true then te σ2 H3 fun y H4 => ∃ acc, H4 D = some (.lst acc) ∧ acc.length < sizeLine ∧ Pv (i + 1) (upd H4 D (.lst (acc ++ [y]))) else Pv (i + 1) H3) (hd : ∀ H, Pv xs.length H → Qd H) :
    ∃ W : Nat → Nat → Hp → Prop, (∃ m, W 0 m (upd H1 D (.lst []))) ∧ ∀ i m H, W i m H →
      ((Itl K a).stop i H ∧ Qd H) ∨ ((Itl K a).go i H ∧ ∃ Nx : Hp → Prop, (∀ H', Nx H' → ∃ m', m' < m ∧ W (i + 1) m' H') ∧ ∀ x H', (Itl K a).yld i H x H' → g x (wipe σ vs) H' fun σ2 H2 => wipe σ2 vs = wipe σ vs ∧ tt σ2 H2 fun b H3 =>
        if b = true then te σ2 H3 fun y H4 => ∃ acc, H4 D = some (.lst acc) ∧ acc.length < sizeLine ∧ Nx (upd H4 D (.lst (acc ++ [y]))) else Nx H3) := by
  refine ⟨fun i m H => m = xs.length - i ∧ i ≤ xs.length ∧ Pv i H, ⟨xs.length, by simp, Nat.zero_le _, h0⟩, ?_⟩
  rintro i m H ⟨rfl, hi, p⟩
  have q := hl i H hi p
  by_cases hlt : i < xs.length
  · refine .inr ⟨⟨xs, xs[i], q, by simp [hlt]⟩, Pv (i + 1), fun H' p' => ⟨xs.length - (i + 1), by omega, rfl, hlt, p'⟩, fun x H' y => ?_⟩
    obtain ⟨e, y⟩ := y
    subst e
    exact hs i x _ (y xs q) p
  · have e : i = xs.length := by omega
    subst e
    exact .inl ⟨⟨xs, q, Nat.le_refl _⟩, hd H p⟩
def blkC (N : List Str) (sc scope : Scope) (own : List (Str × Nat)) : Bool :=
  (match scope.kind with | .function => true | _ => false) && (scope.names.all fun y => decide (scope.names.lookup y.1 = some y.2)) && (own.all fun p => decide (N[p.2]? = some p.1)) &&
    (scope.names.all fun y => match y.2 with
      | .free => (match sc.names.lookup y.1 with | some .cell => true | some .free => true | _ => false)
      | .local => decide (y.1 ∈ own.map (·.1)) || decide (y.1 ∉ N)
      | .cell => decide (y.1 ∈ own.map (·.1)) || decide (y.1 ∉ N)
      | _ => true)
theorem blkOk_by {N : List Str} {sc scope : Scope} {own : List (Str × Nat)} (h : blkC N sc scope own = true) : BlkOk N sc scope own := by
  unfold blkC at h
  simp only [Bool.and_eq_true, List.all_eq_true, decide_eq_true_eq] at h
  obtain ⟨⟨⟨h1, h2⟩, h3⟩, h4⟩ := h
  refine ⟨?_, h2, h3, fun y hy e => ?_, fun y hy e => ?_⟩
  · split at h1
    · assumption
    · cases h1
  · have q := h4 y hy
    simp only [e] at q
    split at q <;> first | exact .inl (by assumption) | exact .inr (by assumption) | cases q
  · have q := h4 y hy
    rcases e with e | e <;> (simp only [e, Bool.or_eq_true, decide_eq_true_eq] at q; exact q)
end L2
namespace L2
open PySem PySem.Spec PyProof.Rows
section
variable {prog : Program} {w : World} {A : Around} {R : Result → Shared → Prop} {s : Shared} {elt t0 i0 t1 i1 : Expr} {ifs0 ifs1 : List Expr} {scope : Scope} {pos : Pos} {it acc : Value} {env : Env}
end
section
variable {X : Cx}
end
end L2
namespace L2
open PySem PySem.Spec PyProof.Rows
section
variable {κ : Type} [DecidableEq κ]
end
section
variable {P : Program} {w : World} {H : Hp} {h : Heap} {a : Addr}
end
section
variable {X : Cx} {pins : List (Addr × Obj)} {σ : St} {H : Hp} {s : Shared} {a : Addr} {y v : V} {u r : Value} {o : Option V} {A : Around} {E : Value → Shared → Prop}
end
section
variable {X : Cx} {pins : List (Addr × Obj)} {σ : St} {H : Hp} {s : Shared} {a : Addr} {kvs : List (Key × V)} {k : Key} {u : Value} {A : Around} {E : Value → Shared → Prop}
end
section
variable {X : Cx} {o i e value : Expr} {pos pos' tpos : Pos} {td ty tv : TE}
end
section
variable {X : Cx} {pos : Pos}
end
section
variable {X : Cx} {pins : List (Addr × Obj)} {σ : St} {H : Hp} {s : Shared} {a : Addr} {y d : V} {u r : Value} {o : Option V} {A : Around} {E : Value → Shared → Prop}
end
section
variable {X : Cx} {o e f : Expr} {apos cpos : Pos} {td ty tx : TE}
end
section
variable {X : Cx} {pins : List (Addr × Obj)} {σ : St} {H : Hp} {s : Shared} {a : Addr} {kvs : List (Key × V)} {A : Around} {E : Value → Shared → Prop}
end
section
variable {X : Cx} {pins : List (Addr × Obj)} {σ : St} {H : Hp} {s : Shared} {a : Addr} {y : V} {u : Value} {A : Around} {E : Value → Shared → Prop}
end
end L2
namespace L2
open PySem PySem.Spec PyProof.Rows
section
variable {prog : Program} {w : World} {A : Around} {E : Value → Shared → Prop}
end
section
variable {X : Cx}
end
end L2
namespace L2
open PySem PySem.Spec PyProof.Rows
section
variable {X : Cx} {pins : List (Addr × Obj)} {σ : St} {H : Hp} {s : Shared} {h' : Heap}
theorem Inv.turnedL {t' : Nat} {ch : List Addr} (I : Inv X pins σ H s) (k : ∀ b o, b ∉ ch → s.heap.get? b = some o → h'.get? b = some o) (hf : ∀ b ∈ ch, FpOk X pins H b) : Inv X pins σ H { s with heap := h', toks := t' } := by
  have nit : ∀ b u, H b = some u → b ∉ ch := fun b u e z => by
    have q := (hf b z).1
    rw [q] at e; cases e
  refine I.step (g' := s.gens) (d' := s.drawn) (ch := ch) (fun b hb => ⟨(hf b hb).2.2.2.1, (hf b hb).2.1, (hf b hb).2.2.2.2.1, (hf b hb).2.2.2.2.2⟩) (fun b o _ _ hc e _ => k b o hc e) (fun b o _ _ hc e _ => ⟨o.slots, k b o hc e⟩)
    (fun _ _ _ _ n => n) (fun b o hc e => ⟨o, k b o hc e⟩) (fun _ _ e => e) (fun _ _ _ e => e) (fun b ps e => ⟨#[], by rw [e]; simp⟩) (fun m hm => ?_) (fun b u e => ?_) I.bare
  · obtain ⟨o, es, ep, ho, r⟩ := hm
    exact ⟨o, es, ep, k _ o (fun z => (hf _ z).2.1 rfl) ho, r⟩
  · refine (I.hok b u e).stay (fun c v hc q => k c v ?_ q) (fun _ q => q) fun _ _ q => q
    rcases hc with z | z
    · rw [z]; exact nit b u e
    · exact nit c _ z
theorem Inv.turnedNew {t' : Nat} {ch : List Addr} {T : Addr} {ob : HO} (I : Inv X pins σ H s) (k : ∀ b o, b ∉ ch → s.heap.get? b = some o → h'.get? b = some o) (hf : ∀ b ∈ ch, FpOk X pins H b) (hT : s.heap.objs.size ≤ T)
    (new : ObjOk X.prog X.w (upd H T ob) h' T ob) : Inv X pins σ (upd H T ob) { s with heap := h', toks := t' } := by
  have hn : H T = none := I.hok.fresh hT
  have nit : ∀ b u, H b = some u → b ∉ ch := fun b u e z => by
    have q := (hf b z).1
    rw [q] at e; cases e
  refine I.step (g' := s.gens) (d' := s.drawn) (ch := ch) (fun b hb => ⟨(hf b hb).2.2.2.1, (hf b hb).2.1, (hf b hb).2.2.2.2.1, (hf b hb).2.2.2.2.2⟩) (fun b o _ _ hc e _ => k b o hc e) (fun b o _ _ hc e _ => ⟨o.slots, k b o hc e⟩)
    (fun b o _ e n => ?_) (fun b o hc e => ⟨o, k b o hc e⟩) (fun b xs e => ?_) (fun b o u e => ?_) (fun b ps e => ⟨#[], ?_⟩) (fun m hm => ?_) (fun b u e => ?_) I.bare
  · rw [upd_ne (Nat.ne_of_lt (Nat.lt_of_lt_of_le (Heap.lt_size e) hT))]; exact n
  · rw [upd_ne (ne_of_none e hn)]; exact e
  · rw [upd_ne (ne_of_none e hn)]; exact e
  · rw [upd_ne (ne_of_none e hn), e]; simp
  · obtain ⟨o, es, ep, ho, r⟩ := hm
    exact ⟨o, es, ep, k _ o (fun z => (hf _ z).2.1 rfl) ho, r⟩
  · by_cases hb : b = T
    · subst hb
      rw [upd_same] at e
      cases e
      exact new
    · rw [upd_ne hb] at e
      refine (I.hok b u e).stay (fun c v hc q => k c v ?_ q) (fun c q => by rw [upd_ne (ne_of_none q hn)]; exact q) fun c xs q => by rw [upd_ne (ne_of_none q hn)]; exact q
      rcases hc with z | z
      · rw [z]; exact nit b u e
      · exact nit c _ z
end
section
variable {X : Cx}
theorem pi_one {tg : Expr} {pins : List (Addr × Obj)} {σ : St} {H : Hp} {s : Shared} {R : It → Hp → Prop} {J : It} {tn : Nat → Heap → Prop} {tk : Nat} (I : Inv X pins σ H s) (o : Obj)
    (T : Turn X.prog X.w X.K tg J [s.heap.objs.size] s.heap.objs.size tn) (st : tn 0 (s.heap.push o)) (q : R J H) : PIE X pins σ tg R (.ref s.heap.objs.size) { s with heap := s.heap.push o, toks := tk } := by
  refine ⟨s.heap.objs.size, [s.heap.objs.size], tn, J, H, rfl, I.kept fun b ob e => Heap.get?_push_of_some _ e, T, st, fun b hb => ?_, q⟩
  have e : b = s.heap.objs.size := by simpa using hb
  subst e
  exact I.fpOk (Nat.le_refl _) (I.hok.fresh (Nat.le_refl _))
end
def Itc (lo c : Int) (n : Nat) : It := ⟨fun i _ => i < n, fun i H x H' => H' = H ∧ x = .int (lo + (i : Nat) * c), fun i _ => n ≤ i⟩
theorem turn_rangeC {P : Program} {w : World} {K : PySem.W.Frag} {tg : Expr} (it : Addr) (lo c : Int) (n : Nat) : Turn P w K tg (Itc lo c n) [it] it (fun i h => IsRangeIter h it (lo + (i : Nat) * c) ((n : Int) - (i : Nat)) c) where
  mem := by simp
  obj := fun i h st b hb => by
    have e : b = it := by simpa using hb
    subst e
    exact ⟨_, st, fun v z => nomatch z⟩
  keep := fun i h h' st k => k it (by simp) _ st
  item := by
    intro X hP hw hK hc i pins s σ H E I hf st hg
    subst hP hw hK
    obtain ⟨f0, f1, f2, f3, f4, f5⟩ := hf it (by simp)
    have W := Walks.range (prog := X.prog) (w := X.w) (I.ok.hd hc) it lo c n
    refine W.item i s _ _ hg st fun v h' tk hv st' kk => ?_
    obtain ⟨t, rfl⟩ := hv
    have I1 : Inv X pins σ H { s with heap := h', toks := tk } := I.turned (fun b o hb e => kk b o (by simpa using hb) e) f0 f1 f3 f4 f5
    exact ⟨_, rfl, go_of (s := { s with heap := h', toks := tk }) (n := "range_iterator") st' rfl rfl (by decide) ⟨.int (lo + (i : Nat) * c), H, I1, ⟨t, rfl⟩, ⟨rfl, rfl⟩, st', fun b hb => (hf b hb).1⟩⟩
  done := by
    intro X hP hw hK hc i pins s σ H E I hf st hg
    subst hP hw hK
    obtain ⟨f0, f1, f2, f3, f4, f5⟩ := hf it (by simp)
    exact wpAny_pyNext_range_end (I.ok.hd hc) st (by have : n ≤ i := hg; omega) fun h' eb => ⟨rfl, I.turned (t' := s.toks) (fun b o hb e => eb b o hb e) f0 f1 f3 f4 f5⟩
  self := fun A i s Q E st h => wpAny_pyIter_rangeiter st h
def RgC (i j c : Int) (n : Nat) : Prop := c ≠ 0 ∧ c.natAbs < 1073741824 ∧ Builtin.Range.small i j c = true ∧ Builtin.Range.rangeSize i j c = n
theorem RgC.neg {i j : Int} (ha : -(2 ^ 62) ≤ i) (ha' : i < 2 ^ 62) (hb : -(2 ^ 62) ≤ j) (hb' : j < 2 ^ 62) : RgC i j (-1) (i - j).toNat :=
  ⟨by decide, by decide, PySem.W.small_down ha ha' hb hb', PySem.W.rangeSize_downNat i j⟩
def iRng3 (ta : TA) : TI := fun σ H R => ta σ H fun vs H1 => ∃ (i j c : Int) (n : Nat), vs = [.int i, .int j, .int c] ∧ RgC i j c n ∧ R (Itc i c n) H1
section
variable {X : Cx} {tg : Expr}
theorem pi_range3 {a b c : Expr} {ta : TA} {p pos : Pos} (hg : Gl X "range") (hm : X.mg "range" = none) (ha : PA X [a, b, c] ta)
    (hs : starEach [a, b, c] X.env = (false, eval a X.env) :: starEach [b, c] X.env := by rfl) (hpl : (backTo pos (starEach [b, c] X.env)).any (·.1) = false := by rfl) :
    PI X tg (.Call (.Name "range" p) [a, b, c] [] pos) (iRng3 ta) := by
  intro pins s σ H R I h
  refine Call_ (ld_blt I hg hm boot_range (PyProof.Rows.callWith_type1 (thn (ha pos pins s σ H _ I h) fun us s1 ⟨vs, H1, I1, r1, q1⟩ => ?_) hs hpl))
  obtain ⟨i, j, k, n, e, ⟨c0, c1, c2, c3⟩, q⟩ := q1
  subst e
  cases r1 with
  | cons r rr =>
    cases rr with
    | cons r' rr =>
      cases rr with
      | cons r'' rr =>
        cases rr
        obtain ⟨t, rfl⟩ := r
        obtain ⟨t', rfl⟩ := r'
        obtain ⟨t'', rfl⟩ := r''
        refine call_range_3 c0 ?_ (.inl (PyProof.noPylong_small c1))
        refine wpAny_pyIter_range (IsRange.new ..) c2 ?_
        have I2 : Inv X pins σ H1 { s1 with heap := s1.heap.push { cls := .type "range", data := .fields #[.int i t, .int j t', .int k t''] } } := I1.kept (t' := s1.toks) fun b o e => Heap.get?_push_of_some _ e
        refine pi_one (tk := s1.toks) I2 _ (turn_rangeC _ i k n) ?_ q
        have e1 : i + ((0 : Nat) : Int) * k = i := by simp
        have e2 : (n : Int) - ((0 : Nat) : Int) = Builtin.Range.rangeSize i j k := by rw [c3]; simp
        show IsRangeIter _ _ (i + ((0 : Nat) : Int) * k) ((n : Int) - ((0 : Nat) : Int)) k
        rw [e1, e2]
        exact Heap.get?_push_size _ rfl
end
theorem for_rangeC {lo c : Int} {n : Nat} {g : TG} {tb : TS} {D : Ends} {σ : St} {H : Hp} (Pv : Nat → St → Hp → Prop) (h0 : Pv 0 σ H)
    (hs : ∀ i σ H, i < n → Pv i σ H → g (.int (lo + (i : Nat) * c)) σ H fun σ2 H2 => tb { D with nx := Pv (i + 1), ct := Pv (i + 1), bk := D.nx } σ2 H2) (hd : ∀ σ H, Pv n σ H → D.nx σ H) :
    ∃ W : Nat → Nat → St → Hp → Prop, (∃ m, W 0 m σ H) ∧ ∀ i m σ H, W i m σ H →
      ((Itc lo c n).stop i H ∧ D.nx σ H) ∨ ((Itc lo c n).go i H ∧ ∃ N : St → Hp → Prop, (∀ σ' H', N σ' H' → ∃ m', m' < m ∧ W (i + 1) m' σ' H') ∧ ∀ x H', (Itc lo c n).yld i H x H' → g x σ H' fun σ2 H2 => tb { D with nx := N, ct := N, bk := D.nx } σ2 H2) := by
  refine ⟨fun i m σ H => m = n - i ∧ i ≤ n ∧ Pv i σ H, ⟨n, by simp, Nat.zero_le _, h0⟩, ?_⟩
  rintro i m σ H ⟨rfl, hi, p⟩
  by_cases hlt : i < n
  · refine .inr ⟨hlt, Pv (i + 1), fun σ' H' p' => ⟨n - (i + 1), by omega, rfl, hlt, p'⟩, fun x H' y => ?_⟩
    obtain ⟨e, y⟩ := y
    subst e y
    exact hs i σ _ hlt p
  · have e : i = n := by omega
    subst e
    exact .inl ⟨Nat.le_refl _, hd σ H p⟩
section
variable {X : Cx} {tg : Expr}
end
section
variable {prog : Program} {w : World} {A : Around} {E : Value → Shared → Prop} {s : Shared}
end
section
variable {X : Cx} {pins : List (Addr × Obj)} {σ : St} {H : Hp} {s : Shared} {d : Addr} {o : Obj}
end
section
variable {P : Program} {w : World} {K : PySem.W.Frag} {tg : Expr} {d : Addr} {o : Obj} {es : Array DictEntry} {ep : Nat}
end
section
variable {X : Cx} {tg e : Expr} {td : TE} {apos cpos : Pos}
end
def Ite (K : PySem.W.Frag) (a : Addr) : It :=
  ⟨fun i H => ∃ (xs : List V) (x : V), SqL K H a xs ∧ xs[i]? = some x, fun i H v H' => ∃ T x, v = .ref T ∧ H T = none ∧ H' = upd H T (.tup [.int (i : Nat), x]) ∧ ∀ xs, SqL K H a xs → xs[i]? = some x, fun i H => ∃ xs : List V, SqL K H a xs ∧ xs.length ≤ i⟩
theorem turn_enum {P : Program} {w : World} {K : PySem.W.Frag} {elts : List Expr} {kk : Nat} {tpos : Pos} (a e it : Addr) :
    Turn P w K (.Tuple elts kk tpos) (Ite K a) [e, it] e (fun i h => (∃ old, IsEnum h e it ((i : Nat) : Int) old) ∧ h.IsListIter it a i ∧ e ≠ it) where
  mem := by simp
  obj := fun i h st b hb => by
    obtain ⟨⟨old, he⟩, ⟨o, ho, hc, hd⟩, _⟩ := st
    have e' : b = e ∨ b = it := by simpa using hb
    rcases e' with z | z
    · rw [z]; exact ⟨_, he, fun v q => nomatch q⟩
    · rw [z]; exact ⟨o, ho, fun v q => by rw [hd] at q; cases q⟩
  keep := fun i h h' st k => let ⟨⟨old, he⟩, hi, hne⟩ := st; ⟨⟨old, k e (by simp) _ he⟩, hi.at fun o q => k it (by simp) o q, hne⟩
  item := by
    intro X hP hw hK hc i pins s σ H E I hf st hg
    subst hP hw hK
    obtain ⟨⟨old, he⟩, hit, hne⟩ := st
    obtain ⟨xs, x, hq, hx⟩ := hg
    obtain ⟨its, rv, p, hz⟩ := I.list hq
    obtain ⟨u, hu, ru⟩ := rv.get hx
    have hel : e < s.heap.objs.size := Heap.lt_size he
    have hil : it < s.heap.objs.size := by obtain ⟨_, q, _⟩ := hit; exact Heap.lt_size q
    refine wpAny_pyNext_enum_item he hit p.isList (x := u) (by simpa using hu) hne fun h' ho hit' hT hsz hk => ?_
    refine ⟨_, rfl, wpAny_letOwnedTupleGo_enum (s := { s with heap := h', toks := s.toks + 1 }) ho fun h'' he' sb => ?_⟩
    have hT2 : h''.get? s.heap.objs.size = some { cls := .type "tuple", data := .seq #[.int i s.toks, u] } := (sb.2 _ (Nat.ne_of_gt hel)).trans hT
    have new : ObjOk X.prog X.w (upd H s.heap.objs.size (.tup [.int (i : Nat), x])) h'' s.heap.objs.size (.tup [.int (i : Nat), x]) :=
      ⟨by show 2 ≤ sizeLine; decide, [.int i s.toks, u], .cons ⟨_, rfl⟩ (.cons ru .nil), ⟨_, hT2, rfl, _, rfl⟩⟩
    have I1 : Inv X pins σ (upd H s.heap.objs.size (.tup [.int (i : Nat), x])) { s with heap := h'', toks := s.toks + 1 } :=
      I.turnedNew (ch := [e, it]) (fun b ob hb q => (sb.2 b (fun z => hb (by simp [z]))).trans (hk b ob (fun z => hb (by simp [z])) (fun z => hb (by simp [z])) q)) hf (Nat.le_refl _) new
    refine ⟨.ref s.heap.objs.size, _, I1, rfl, ⟨_, x, rfl, I.hok.fresh (Nat.le_refl _), rfl, fun ys hy => by rw [I.list_inj hy hq]; exact hx⟩, ⟨⟨u, ?_⟩, hit'.at fun o q => (sb.2 it (Ne.symm hne)).trans q, hne⟩, fun b hb => ?_⟩
    · have e1 : ((i + 1 : Nat) : Int) = (i : Int) + 1 := by omega
      rw [e1]; exact he'
    · have hb' : b < s.heap.objs.size := by
        have e' : b = e ∨ b = it := by simpa using hb
        rcases e' with z | z
        · rw [z]; exact hel
        · rw [z]; exact hil
      rw [upd_ne (Nat.ne_of_lt hb')]
      exact (hf b hb).1
  done := by
    intro X hP hw hK hc i pins s σ H E I hf st hg
    subst hP hw hK
    obtain ⟨⟨old, he⟩, hit, hne⟩ := st
    obtain ⟨xs, hq, hx⟩ := hg
    obtain ⟨its, rv, p, hz⟩ := I.list hq
    obtain ⟨f0, f1, f2, f3, f4, f5⟩ := hf it (by simp)
    have hl := rv.length
    exact wpAny_pyNext_enum_end (I.ok.hd hc) he hit p.isList (by simp; omega) fun h' eb => ⟨rfl, I.turned (t' := s.toks) (fun b o hb q => eb b o hb q) f0 f1 f3 f4 f5⟩
  self := fun A i s Q E st h => let ⟨⟨_, he⟩, _⟩ := st; wpAny_pyIter_enum he h
def iEnum (K : PySem.W.Frag) (ta : TA) : TI := fun σ H R => ta σ H fun vs H1 => ∃ a xs, vs = [.ref a] ∧ SqL K H1 a xs ∧ R (Ite K a) H1
theorem pi_enum {X : Cx} {e : Expr} {ta : TA} {p pos tpos : Pos} {elts : List Expr} {kk : Nat} (hg : Gl X "enumerate") (hm : X.mg "enumerate" = none) (ha : PA X [e] ta) (hs : starEach [e] X.env = [(false, eval e X.env)] := by rfl) :
    PI X (.Tuple elts kk tpos) (.Call (.Name "enumerate" p) [e] [] pos) (iEnum X.K ta) := by
  intro pins s σ H R I h
  refine Call_ (ld_blt I hg hm boot_enumerate (PyProof.Rows.callWith_type1 (thn (ha pos pins s σ H _ I h) fun us s1 ⟨vs, H1, I1, r1, q1⟩ => ?_) hs rfl))
  obtain ⟨a, xs, ex, hq, q⟩ := q1
  subst ex
  cases r1 with
  | cons r rr =>
    cases rr
    cases r
    obtain ⟨its, rv, p', hz⟩ := I1.list hq
    refine call_enumerate_list p'.isList fun h' he hit hsz hk => wpAny_pyIter_enum he ?_
    have I2 : Inv X pins σ H1 { s1 with heap := h' } := I1.kept (t' := s1.toks) hk
    refine ⟨s1.heap.objs.size + 1, [s1.heap.objs.size + 1, s1.heap.objs.size], _, _, H1, rfl, I2, turn_enum a (s1.heap.objs.size + 1) s1.heap.objs.size, ⟨⟨.none, he⟩, hit, Nat.succ_ne_self _⟩, fun b hb => ?_, q⟩
    have e' : b = s1.heap.objs.size + 1 ∨ b = s1.heap.objs.size := by simpa using hb
    have hle : s1.heap.objs.size ≤ b := by
      rcases e' with z | z
      · rw [z]; exact Nat.le_add_right _ _
      · rw [z]; exact Nat.le_refl _
    exact I1.fpOk hle (I1.hok.fresh hle)
theorem boot_zip5 : bootBuiltins "zip" = some (.type "zip") := by decide +kernel
def Itz (K : PySem.W.Frag) (a b : Addr) : It :=
  ⟨fun i H => ∃ (xs ys : List V) (x y : V), SqL K H a xs ∧ SqL K H b ys ∧ xs[i]? = some x ∧ ys[i]? = some y,
    fun i H v H' => ∃ T x y, v = .ref T ∧ H T = none ∧ H' = upd H T (.tup [x, y]) ∧ (∀ xs, SqL K H a xs → xs[i]? = some x) ∧ ∀ ys, SqL K H b ys → ys[i]? = some y,
    fun i H => ∃ xs ys : List V, SqL K H a xs ∧ SqL K H b ys ∧ (xs.length ≤ i ∨ ys.length ≤ i)⟩
theorem turn_zip {P : Program} {w : World} {K : PySem.W.Frag} {elts : List Expr} {kk : Nat} {tpos : Pos} {a b z TI TO i1 i2 : Addr} (D : ZipApart z TI TO i1 i2 a b) :
    Turn P w K (.Tuple elts kk tpos) (Itz K a b) [z, TI, TO, i1, i2] z (fun i h => IsZip h z TI TO .none ∧ IsPair h TI (.ref i1) (.ref i2) ∧ (∃ x y, IsPair h TO x y) ∧ h.IsListIter i1 a i ∧ h.IsListIter i2 b i) where
  mem := by simp
  obj := fun i h st c hc => by
    obtain ⟨hz, hTI, ⟨x, y, hTO⟩, ⟨o1, e1, _, d1⟩, ⟨o2, e2, _, d2⟩⟩ := st
    have e' : c = z ∨ c = TI ∨ c = TO ∨ c = i1 ∨ c = i2 := by simpa using hc
    rcases e' with q | q | q | q | q
    · rw [q]; exact ⟨_, hz, fun v q => nomatch q⟩
    · rw [q]; exact ⟨_, hTI, fun v q => nomatch q⟩
    · rw [q]; exact ⟨_, hTO, fun v q => nomatch q⟩
    · rw [q]; exact ⟨o1, e1, fun v q => by rw [d1] at q; cases q⟩
    · rw [q]; exact ⟨o2, e2, fun v q => by rw [d2] at q; cases q⟩
  keep := fun i h h' st k => by
    obtain ⟨hz, hTI, ⟨x, y, hTO⟩, h1, h2⟩ := st
    exact ⟨k z (by simp) _ hz, k TI (by simp) _ hTI, ⟨x, y, k TO (by simp) _ hTO⟩, h1.at fun o q => k i1 (by simp) o q, h2.at fun o q => k i2 (by simp) o q⟩
  item := by
    intro X hP hw hK hc i pins s σ H E I hf st hg
    subst hP hw hK
    obtain ⟨hz, hTI, ⟨x0, y0, hTO⟩, h1, h2⟩ := st
    obtain ⟨xs, ys, x, y, hqx, hqy, hx, hy⟩ := hg
    obtain ⟨its, rv, p, _⟩ := I.list hqx
    obtain ⟨its2, rv2, p2, _⟩ := I.list hqy
    obtain ⟨u, hu, ru⟩ := rv.get hx
    obtain ⟨u2, hu2, ru2⟩ := rv2.get hy
    have hzl : z < s.heap.objs.size := Heap.lt_size hz
    refine wpAny_pyNext_zip_item D hz hTI hTO h1 h2 p.isList p2.isList (x := u) (y := u2) (by simpa using hu) (by simpa using hu2) fun h' z' TO' h1' h2' hT hsz hk => ?_
    refine ⟨_, rfl, wpAny_letOwnedTupleGo_zip (s := { s with heap := h' }) z' fun h'' z'' sb => ?_⟩
    have hT2 : h''.get? s.heap.objs.size = some { cls := .type "tuple", data := .seq #[u, u2] } := (sb.2 _ (Nat.ne_of_gt hzl)).trans hT
    have new : ObjOk X.prog X.w (upd H s.heap.objs.size (.tup [x, y])) h'' s.heap.objs.size (.tup [x, y]) :=
      ⟨by show 2 ≤ sizeLine; decide, [u, u2], .cons ru (.cons ru2 .nil), ⟨_, hT2, rfl, _, rfl⟩⟩
    have I1 : Inv X pins σ (upd H s.heap.objs.size (.tup [x, y])) { s with heap := h'' } :=
      I.turnedNew (t' := s.toks) (ch := [z, TI, TO, i1, i2]) (fun c o hb q => (sb.2 c (fun q' => hb (by simp [q']))).trans (hk c o (fun q' => hb (by simp [q'])) (fun q' => hb (by simp [q'])) (fun q' => hb (by simp [q'])) (fun q' => hb (by simp [q'])) q)) hf (Nat.le_refl _) new
    refine ⟨.ref s.heap.objs.size, _, I1, rfl, ⟨_, x, y, rfl, I.hok.fresh (Nat.le_refl _), rfl, fun l hl => by rw [I.list_inj hl hqx]; exact hx, fun l hl => by rw [I.list_inj hl hqy]; exact hy⟩, ⟨z'', ?_, ⟨u, u2, ?_⟩, ?_, ?_⟩, fun c hcm => ?_⟩
    · exact (sb.2 _ D.TIz).trans (hk _ _ D.TIz D.TITO D.TIi1 D.TIi2 hTI)
    · exact (sb.2 _ D.TOz).trans TO'
    · exact h1'.at fun o q => (sb.2 _ D.i1z).trans q
    · exact h2'.at fun o q => (sb.2 _ D.i2z).trans q
    · have hlt : c < s.heap.objs.size := by
        have e' : c = z ∨ c = TI ∨ c = TO ∨ c = i1 ∨ c = i2 := by simpa using hcm
        rcases e' with q | q | q | q | q
        · rw [q]; exact hzl
        · rw [q]; exact Heap.lt_size hTI
        · rw [q]; exact Heap.lt_size hTO
        · rw [q]; obtain ⟨_, e1, _⟩ := h1; exact Heap.lt_size e1
        · rw [q]; obtain ⟨_, e2, _⟩ := h2; exact Heap.lt_size e2
      rw [upd_ne (Nat.ne_of_lt hlt)]
      exact (hf c hcm).1
  done := by
    intro X hP hw hK hc i pins s σ H E I hf st hg
    subst hP hw hK
    obtain ⟨hz, hTI, ⟨x0, y0, hTO⟩, h1, h2⟩ := st
    obtain ⟨xs, ys, hqx, hqy, hend⟩ := hg
    obtain ⟨its, rv, p, _⟩ := I.list hqx
    obtain ⟨its2, rv2, p2, _⟩ := I.list hqy
    have l1 := rv.length
    have l2 := rv2.length
    have he : its.toArray[i]? = none ∨ its2.toArray[i]? = none := by
      rcases hend with q | q
      · exact .inl (by simp; omega)
      · exact .inr (by simp; omega)
    exact wpAny_pyNext_zip_end (I.ok.hd hc) D hz hTI hTO h1 h2 p.isList p2.isList he fun h' hk => ⟨rfl, I.turnedL (t' := s.toks) (ch := [z, TI, TO, i1, i2]) (fun c o hb q =>
      hk c o (fun q' => hb (by simp [q'])) (fun q' => hb (by simp [q'])) (fun q' => hb (by simp [q'])) (fun q' => hb (by simp [q'])) q) hf⟩
  self := fun A i s Q E st h => wpAny_pyIter_zip st.1 h
def iZip (K : PySem.W.Frag) (ta : TA) : TI := fun σ H R => ta σ H fun vs H1 => ∃ a b xs ys, vs = [.ref a, .ref b] ∧ SqL K H1 a xs ∧ SqL K H1 b ys ∧ R (Itz K a b) H1
theorem pi_zip {X : Cx} {e e2 : Expr} {ta : TA} {p pos tpos : Pos} {elts : List Expr} {kk : Nat} (hg : Gl X "zip") (hm : X.mg "zip" = none) (ha : PA X [e, e2] ta)
    (hs : starEach [e, e2] X.env = (false, eval e X.env) :: starEach [e2] X.env := by rfl) (hpl : (backTo pos (starEach [e2] X.env)).any (·.1) = false := by rfl) :
    PI X (.Tuple elts kk tpos) (.Call (.Name "zip" p) [e, e2] [] pos) (iZip X.K ta) := by
  intro pins s σ H R I h
  refine Call_ (ld_blt I hg hm boot_zip5 (PyProof.Rows.callWith_type1 (thn (ha pos pins s σ H _ I h) fun us s1 ⟨vs, H1, I1, r1, q1⟩ => ?_) hs hpl))
  obtain ⟨a, b, xs, ys, ex, hqx, hqy, q⟩ := q1
  subst ex
  cases r1 with
  | cons r rr =>
    cases rr with
    | cons r' rr =>
      cases rr
      cases r
      cases r'
      obtain ⟨its, rv, p1, _⟩ := I1.list hqx
      obtain ⟨its2, rv2, p2, _⟩ := I1.list hqy
      have la : a < s1.heap.objs.size := p1.lt
      have lb : b < s1.heap.objs.size := p2.lt
      refine call_zip_2 p1.isList p2.isList fun h' hz hTI hTO h1 h2 hsz hk => wpAny_pyIter_zip hz ?_
      have I2 : Inv X pins σ H1 { s1 with heap := h' } := I1.kept (t' := s1.toks) hk
      refine ⟨s1.heap.objs.size + 4, [s1.heap.objs.size + 4, s1.heap.objs.size + 2, s1.heap.objs.size + 3, s1.heap.objs.size, s1.heap.objs.size + 1], _, _, H1, rfl, I2, turn_zip (PySem.W.ktu_apart s1.heap.objs.size a b la lb), ⟨hz, hTI, ⟨_, _, hTO⟩, h1, h2⟩, fun c hcm => ?_, q⟩
      have e' : c = s1.heap.objs.size + 4 ∨ c = s1.heap.objs.size + 2 ∨ c = s1.heap.objs.size + 3 ∨ c = s1.heap.objs.size ∨ c = s1.heap.objs.size + 1 := by simpa using hcm
      have hle : s1.heap.objs.size ≤ c := by
        rcases e' with z | z | z | z | z
        · rw [z]; exact Nat.le_add_right _ _
        · rw [z]; exact Nat.le_add_right _ _
        · rw [z]; exact Nat.le_add_right _ _
        · rw [z]; exact Nat.le_refl _
        · rw [z]; exact Nat.le_add_right _ _
      exact I1.fpOk hle (I1.hok.fresh hle)
end L2
section 
namespace Bits
open PySem PyProof.Rows
theorem nat_and_mul_pow (k : Nat) : ∀ a b : Nat, a < 2 ^ k → a &&& (b * 2 ^ k) = 0 := by
  induction k with
  | zero =>
    intro a b h
    have h0 : a = 0 := by
      rw [Nat.pow_zero] at h
      omega
    subst h0
    simp
  | succ k ih =>
    intro a b h
    have hm : (b * 2 ^ (k + 1)) = (b * 2 ^ k) * 2 := by rw [Nat.pow_succ, Nat.mul_assoc]
    have hlt : a / 2 < 2 ^ k := by
      rw [Nat.pow_succ] at h
      generalize 2 ^ k = m at h ⊢
      omega
    have i := ih (a / 2) b hlt
    rw [hm]
    generalize b * 2 ^ k = B at i ⊢
    have e : (a &&& (B * 2)) / 2 = a / 2 &&& (B * 2) / 2 := Nat.and_div_two
    have e2 : (B * 2) / 2 = B := by omega
    have o := @Nat.and_mod_two_eq_one a (B * 2)
    rw [e2, i] at e
    omega
theorem natCast_mul_pow (m k : Nat) : (m : Int) * 2 ^ k = ((m * 2 ^ k : Nat) : Int) := by
  rw [two_pow_cast]
  first
    | exact (Int.natCast_mul _ _).symm
    | simp
theorem bitOr_join {a b : Int} {k : Nat} (h0 : 0 ≤ a) (h1 : a < 2 ^ k) (hb : 0 ≤ b) : Builtin.bitOr a (b * 2 ^ k) = a + b * 2 ^ k := by
  obtain ⟨n, rfl⟩ := Int.eq_ofNat_of_zero_le h0
  obtain ⟨m, rfl⟩ := Int.eq_ofNat_of_zero_le hb
  have hn : n < 2 ^ k := by
    rw [two_pow_cast] at h1
    omega
  have e : Builtin.bitAnd (n : Int) ((m * 2 ^ k : Nat) : Int) = 0 := by
    rw [bitAnd_pp (by omega) (by omega), Int.toNat_natCast, Int.toNat_natCast, nat_and_mul_pow k n m hn] <;> rfl
  rw [natCast_mul_pow, bitOr_and, e]
  omega
theorem bitOr_join' {a b : Int} {k : Nat} (h0 : 0 ≤ a) (h1 : a < 2 ^ k) (hb : 0 ≤ b) : Builtin.bitOr (b * 2 ^ k) a = a + b * 2 ^ k := by
  rw [bitOr_comm]
  exact bitOr_join h0 h1 hb
theorem bitAnd_mask {x : Int} (k : Nat) (hx : 0 ≤ x) : Builtin.bitAnd x (2 ^ k - 1) = x % 2 ^ k := by
  obtain ⟨n, rfl⟩ := Int.eq_ofNat_of_zero_le hx
  have hp : 0 < 2 ^ k := Nat.two_pow_pos k
  rw [two_pow_cast]
  have e : ((2 ^ k : Nat) : Int) - 1 = ((2 ^ k - 1 : Nat) : Int) := by
    generalize (2 : Nat) ^ k = m at hp
    omega
  rw [e, bitAnd_pp (by omega) (by omega), Int.toNat_natCast, Int.toNat_natCast, Nat.and_two_pow_sub_one_eq_mod]
  first
    | rfl
    | exact Int.natCast_emod _ _
    | simp
theorem bitOr_pp {x y : Int} (hx : 0 ≤ x) (hy : 0 ≤ y) : Builtin.bitOr x y = ((x.toNat ||| y.toNat : Nat) : Int) := by
  have e := nat_or_add_and x.toNat y.toNat
  rw [bitOr_and, bitAnd_pp hx hy]
  omega
end Bits
end 
section 
namespace TL
open PySem PySem.Builtin PySem.Builtin.Str PySem.StrLaws
end TL
end 
namespace L2
open PySem PySem.Spec PyProof.Rows
section
variable {X : Cx} {pins : List (Addr × Obj)} {σ : St} {H : Hp} {s : Shared} {Q : VK}
end
section
variable {X : Cx}
end
section
variable {X : Cx} {o e : Expr} {to te : TE}
end
end L2
namespace L2
open PySem PySem.Spec PyProof.Rows
section
variable {X : Cx}
end
end L2
namespace Att
open PySem PySem.W PySem.Calls PyProof.Rows
section
variable {prog : Program} {w : World} {A : Around} {E : Value → Shared → Prop} {s : Shared} {K : Frag}
end
end Att
namespace L2
open PySem PySem.Spec PyProof.Rows
end L2
namespace L2
open PySem PySem.Spec PyProof.Rows
abbrev KOf {K : PySem.W.Frag} {h : Heap} (_ : K.In h) : PySem.W.Frag := K
end L2
namespace L2
open PySem PySem.Spec PyProof.Rows
def inClass (s : Stmt) (j : Nat) : Stmt := match s with
  | .ClassDef _ _ _ body _ _ _ _ _ _ _ => body.getD j (.Pass ⟨0, 0, 0, 0⟩)
  | _ => .Pass ⟨0, 0, 0, 0⟩
def defArgs (s : Stmt) : Arguments := match s with
  | .FunctionDef _ a _ _ _ _ _ _ _ _ => a
  | _ => { posonlyargs := [], args := [], vararg := none, kwonlyargs := [], kw_defaults := [], kwarg := none, defaults := [] }
def defBody (s : Stmt) : List Stmt := match s with
  | .FunctionDef _ _ b _ _ _ _ _ _ _ => b
  | _ => []
def defScope (s : Stmt) : Scope := match s with
  | .FunctionDef _ _ _ _ _ _ sc _ _ _ => sc
  | _ => { kind := .function, names := [], isGenerator := false, isCoroutine := false }
abbrev CX0 : CXT := fun _ _ _ _ _ _ => False
abbrev E0 : XK := fun _ _ _ => False
theorem pass0 {X : Cx} : Passes CX0 X E0 := fun _ _ _ _ _ _ _ h => h.elim
structure Fun (K : PySem.W.Frag) (x qual : Str) (st : Stmt) (f : Addr) (fd : FuncData) : Prop where
  ex : ∃ (oc : Value) (od : Option Addr) (kV doc pm : Value) (an : Option Addr) (cdv ct : Value) (osl : Array (Option Value)),
    fd = PySem.W.fnOf x qual (defArgs st) (defBody st) (defScope st) .none kV doc pm an cdv ct ∧ K.lookup f = some ⟨oc, od, .func fd, osl⟩ ∧ PySem.W.codeIn K cdv qual = true
  kp : PySem.W.keepIn K (.ref f) = true
section
variable {P : Program} {w : World} {K : PySem.W.Frag} {mg : Str → Option Value} {base : Heap}
theorem Fun.ok {x qual : Str} {st : Stmt} {f : Addr} {fd : FuncData} {N ps : List Str} {k : Nat} {sp : Sp} (F : Fun K x qual st f fd) (S : FnScope N ps (defScope st)) (len : ∀ vs H Q E, sp vs H Q E → vs.length = ps.length)
    (hbody : ∀ (cdv : Value) (A : Around) (outer : List Env) (s : Shared) (H : Hp) (vs : List V) (Q : VK) (E : XK), Room k (A.deeper (envOfC qual (defScope st) s.heap.objs.size f cdv)) → sp vs H Q E →
      ∃ t, PSs (cxOf CX0 P w K mg base N qual (defScope st) f cdv A outer s H E).nox (defBody st) t ∧ t { nx := fun _ H' => Q .non H', rt := Q } (start N vs) H) : FnOk P w K mg base CX0 (k + 1) f fd ps sp := by
  obtain ⟨oc, od, kV, doc, pm, an, cdv, ct, osl, rfl, lk, hcd⟩ := F.ex
  refine fn_of lk hcd S len fun A outer s H vs Q E hr hsp => ?_
  obtain ⟨t, h, q⟩ := hbody cdv A outer s H vs Q E hr hsp
  exact ⟨t, h.nox, q⟩
theorem Fun.binds {x qual : Str} {st : Stmt} {f : Addr} {fd : FuncData} {ps : List Str} (F : Fun K x qual st f fd)
    (h : ∀ (kV doc pm : Value) (an : Option Addr) (cdv ct : Value) (us : List Value), us.length = ps.length → bindArgs (PySem.W.fnOf x qual (defArgs st) (defBody st) (defScope st) .none kV doc pm an cdv ct) ⟨us, []⟩ = pure (ps.zip us)) : Binds K fd ps [] := by
  obtain ⟨oc, od, kV, doc, pm, an, cdv, ct, osl, rfl, lk, hcd⟩ := F.ex
  exact .all (h kV doc pm an cdv ct)
theorem fun_mk {x qual : Str} {st : Stmt} {f : Addr} {oc : Value} {od an : Option Addr} {osl : Array (Option Value)} {kV doc pm cdv ct : Value} (l : K.lookup f = some ⟨oc, od, .func (PySem.W.fnOf x qual (defArgs st) (defBody st) (defScope st) .none kV doc pm an cdv ct), osl⟩)
    (c : PySem.W.codeIn K cdv qual = true) (k : PySem.W.keepIn K (.ref f) = true) : Fun K x qual st f (PySem.W.fnOf x qual (defArgs st) (defBody st) (defScope st) .none kV doc pm an cdv ct) := ⟨⟨oc, od, kV, doc, pm, an, cdv, ct, osl, rfl, l, c⟩, k⟩
end
section
variable {X : Cx}
theorem pv (i : Nat) {x : Str} {pos : Pos} (hN : X.N[i]? = some x := by rfl) (hv : Vis X.env.scope x := by first | exact Or.inl rfl | exact Or.inr (Or.inl rfl) | exact Or.inr (Or.inr rfl)) (hd : (x == ("__debug__" : Str)) = false := by decide)
    (hcd : (x == ("__classdict__" : Str)) = false := by decide) : PE X (.Name x pos) (tVar i) := pe_var hN hv hd hcd
end
theorem iteF {A B : Prop} (h : B) : if false = true then A else B := by
  rw [if_neg Bool.false_ne_true]
  exact h
theorem iteT {A B : Prop} (h : A) : if true = true then A else B := by
  rw [if_pos rfl]
  exact h
theorem ite2 {c A B : Prop} [Decidable c] (h1 : c → A) (h2 : ¬ c → B) : if c then A else B := by
  by_cases h : c
  · rw [if_pos h]
    exact h1 h
  · rw [if_neg h]
    exact h2 h
def Same (H H' : Hp) : Prop := ∀ b o, H b = some o → H' b = some o
theorem Same.refl (H : Hp) : Same H H := fun _ _ h => h
theorem Same.trans {H H1 H2 : Hp} (a : Same H H1) (b : Same H1 H2) : Same H H2 := fun c o h => b c o (a c o h)
theorem Same.free {H H' : Hp} (e : Same H H') {l : Addr} (h : H' l = Option.none) : H l = Option.none := by
  cases q : H l with
  | none => rfl
  | some o =>
    rw [e l o q] at h
    cases h
theorem Same.seq {K : PySem.W.Frag} {H H' : Hp} {a : Addr} {xs : List V} (e : Same H H') (h : SqL K H a xs) : SqL K H' a xs := by
  rcases h with (h | ⟨o, h⟩) | h
  · exact .inl (.inl (e _ _ h))
  · exact .inl (.inr ⟨o, e _ _ h⟩)
  · exact .inr h
section
variable {κ : Type} [DecidableEq κ]
end
theorem at_of {xs : List V} {z : Int} {j : Nat} {v : V} (e : z = (j : Int)) (h : xs[j]? = some v) : atI xs z = some v := by
  rw [e]
  exact atI_nat h
theorem nd_ix {α : Type} {l : List α} (hN : l.Nodup) {i j : Nat} {x : α} (a : l[i]? = some x) (b : l[j]? = some x) : i = j := by
  obtain ⟨h1, e1⟩ := List.getElem?_eq_some_iff.mp a
  obtain ⟨h2, e2⟩ := List.getElem?_eq_some_iff.mp b
  exact (List.getElem_inj hN).mp (e1.trans e2.symm)
end L2
namespace L2
open PySem PySem.Spec PyProof.Rows
open PySem.W (WData Codec OpenSpec Well WellAll ReadsW ReadsAllW)
mutual
inductive Dw (K : PySem.W.Frag) (H : Hp) : V → WData → Prop
  | non : Dw K H .non .none
  | bl (b : Bool) : Dw K H (.bl b) (.bool b)
  | int (i : Int) : Dw K H (.int i) (.int i)
  | str (x : Str) : Dw K H (.str x) (.str x)
  | byt (b : Array UInt8) : Dw K H (.byt b) (.bytes b.toList)
  | lst {a : Addr} {xs : List V} {ds : List WData} : SqL K H a xs → DwAll K H xs ds → Dw K H (.ref a) (.list ds)
  | tup {a : Addr} {xs : List V} {ds : List WData} : SqT K H a xs → DwAll K H xs ds → Dw K H (.ref a) (.tuple ds)
inductive DwAll (K : PySem.W.Frag) (H : Hp) : List V → List WData → Prop
  | nil : DwAll K H [] []
  | cons {v : V} {vs : List V} {d : WData} {ds : List WData} : Dw K H v d → DwAll K H vs ds → DwAll K H (v :: vs) (d :: ds)
end
theorem dw_ints {K : PySem.W.Frag} {H : Hp} : ∀ ns : List Int, DwAll K H (ns.map V.int) (ns.map WData.int)
  | [] => .nil
  | n :: r => .cons (.int n) (dw_ints r)
theorem ints_dw {K : PySem.W.Frag} {H : Hp} : ∀ (ns : List Int) (xs : List V), DwAll K H xs (ns.map WData.int) → xs = ns.map V.int
  | [], xs, h => by
    cases h
    rfl
  | n :: r, xs, h => by
    cases h with
    | cons h1 h2 =>
      cases h1
      rw [ints_dw r _ h2] <;> rfl
section
variable {P : Program} {w : World} {K : PySem.W.Frag} {H : Hp} {h : Heap} {R : PySem.W.WRecords} {cl : Str → Option Addr}
theorem sqL_at {a : Addr} {xs : List V} (hok : HOk P w H h) (KX : K.In h) (q : SqL K H a xs) : ∃ (its : List Value) (o : Obj) (n : Nat), Vals xs its ∧ h.get? a = some o ∧ o.cls = .type "list" ∧ o.data = .seq its.toArray n := by
  rcases q with q | ⟨o, its, n, e, hc, _, hd, _, hv⟩
  · obtain ⟨_, its, n, hv, e⟩ := (show ObjOk P w H h a (.lst xs) from q.ok hok)
    exact ⟨its, _, n, hv, e, rfl, rfl⟩
  · exact ⟨its.toList, o, n, hv, KX _ _ e, hc, by simp [hd]⟩
theorem sqT_at {a : Addr} {xs : List V} (hok : HOk P w H h) (KX : K.In h) (q : SqT K H a xs) : ∃ (its : List Value) (o : Obj) (n : Nat), Vals xs its ∧ h.get? a = some o ∧ o.cls = .type "tuple" ∧ o.data = .seq its.toArray n := by
  rcases q with q | ⟨o, its, n, e, hc, hd, _, hv⟩
  · obtain ⟨_, its, hv, o, e, hc, n, hd⟩ := (show ObjOk P w H h a (.tup xs) from q.ok hok)
    exact ⟨its, o, n, hv, e, hc, hd⟩
  · exact ⟨its.toList, o, n, hv, KX _ _ e, hc, by simp [hd]⟩
mutual
theorem Dw.reads (hok : HOk P w H h) (KX : K.In h) : ∀ (d : WData) (v : V) (u : Value), Dw K H v d → RelV v u → ∃ as, ReadsW R cl h u d as
  | .none, _, _, x, r => by
    cases x
    cases r
    exact ⟨_, ReadsW.none⟩
  | .bool b, _, _, x, r => by
    cases x
    cases r
    exact ⟨_, ReadsW.bool b⟩
  | .int i, _, _, x, r => by
    cases x
    obtain ⟨t, rfl⟩ := r
    exact ⟨_, ReadsW.int i t⟩
  | .str s, _, _, x, r => by
    cases x
    obtain ⟨t, rfl⟩ := r
    exact ⟨_, ReadsW.str s t⟩
  | .bytes b, _, _, x, r => by
    cases x
    obtain ⟨t, rfl⟩ := r
    exact ⟨_, ReadsW.bytes _ t⟩
  | .list ds, _, _, x, r => by
    cases x with
    | lst hs ha =>
      cases r
      obtain ⟨its, o, n, rv, ho, hc, hd⟩ := sqL_at hok KX hs
      obtain ⟨as, hr⟩ := Dw.readsAll hok KX ds _ its ha rv
      exact ⟨_, ReadsW.list ho hc hd hr⟩
  | .tuple ds, _, _, x, r => by
    cases x with
    | tup hs ha =>
      cases r
      obtain ⟨its, o, n, rv, ho, hc, hd⟩ := sqT_at hok KX hs
      obtain ⟨as, hr⟩ := Dw.readsAll hok KX ds _ its ha rv
      exact ⟨_, ReadsW.tuple ho hc hd hr⟩
  | .float _, _, _, x, _ => by cases x
  | .dict _, _, _, x, _ => by cases x
  | .bytearray _, _, _, x, _ => by cases x
  | .set _, _, _, x, _ => by cases x
  | .frozenset _, _, _, x, _ => by cases x
  | .obj _ _, _, _, x, _ => by cases x
theorem Dw.readsAll (hok : HOk P w H h) (KX : K.In h) : ∀ (ds : List WData) (vs : List V) (us : List Value), DwAll K H vs ds → Vals vs us → ∃ as, ReadsAllW R cl h us ds as
  | [], _, _, x, r => by
    cases x
    cases r
    exact ⟨_, ReadsAllW.nil⟩
  | d :: ds, _, _, x, r => by
    cases x with
    | cons h1 h2 =>
      cases r with
      | cons r1 r2 =>
        obtain ⟨as, q1⟩ := Dw.reads hok KX d _ _ h1 r1
        obtain ⟨bs, q2⟩ := Dw.readsAll hok KX ds _ _ h2 r2
        exact ⟨_, ReadsAllW.cons q1 q2⟩
end
end
mutual
def plW : WData → Bool
  | .none => true
  | .bool _ => true
  | .int _ => true
  | .str _ => true
  | .bytes _ => true
  | .list xs => plWs xs
  | .tuple xs => plWs xs
  | _ => false
def plWs : List WData → Bool
  | [] => true
  | x :: r => plW x && plWs r
end
theorem plWs_map {α : Type} {f : α → WData} (h : ∀ a, plW (f a) = true) : ∀ l : List α, plWs (l.map f) = true
  | [] => rfl
  | x :: r => by
    show (plW (f x) && plWs (r.map f)) = true
    rw [h x, plWs_map h r] <;> rfl
theorem pl_enc : ∀ (c : Codec) (a : c.denote), plW (c.enc a) = true
  | .unit, _ => rfl
  | .bool, _ => rfl
  | .int _ _, _ => rfl
  | .nat _ _, _ => rfl
  | .u8, _ => rfl
  | .bytes _ _, _ => rfl
  | .text _ _ _ _, _ => rfl
  | .list _ _ c, a => plWs_map (fun x => pl_enc c x) a
  | .pair c d, a => by
    show (plW (c.enc a.1) && (plW (d.enc a.2) && true)) = true
    rw [pl_enc c a.1, pl_enc d a.2] <;> rfl
  | .triple c d e, a => by
    show (plW (c.enc a.1) && (plW (d.enc a.2.1) && (plW (e.enc a.2.2) && true))) = true
    rw [pl_enc c a.1, pl_enc d a.2.1, pl_enc e a.2.2] <;> rfl
  | .option c, none => rfl
  | .option c, some x => pl_enc c x
theorem pl_encAll : ∀ (cs : List Codec) (a : Codec.denoteAll cs), plWs (Codec.encAll cs a) = true
  | [], _ => rfl
  | c :: cs, a => by
    show (plW (c.enc a.1) && plWs (Codec.encAll cs a.2)) = true
    rw [pl_enc c a.1, pl_encAll cs a.2] <;> rfl
theorem weight_mem : ∀ {xs : List WData} {d : WData}, d ∈ xs → d.weight ≤ WData.weightAll xs
  | [], d, h => absurd h (by simp)
  | x :: r, d, h => by
    show d.weight ≤ x.weight + 1 + WData.weightAll r
    rcases List.mem_cons.mp h with e | m
    · rw [e]
      omega
    · have z := weight_mem m
      omega
def toV : Value → V
  | .none => .non
  | .bool b => .bl b
  | .int i _ => .int i
  | .str x _ => .str x
  | .bytes b _ => .byt b
  | .ref a => .ref a
  | _ => .non
def OkU (A : List Addr) : Value → Prop
  | .none => True
  | .bool _ => True
  | .int _ _ => True
  | .str _ _ => True
  | .bytes _ _ => True
  | .ref a => a ∈ A
  | _ => False
theorem OkU.mono {A B : List Addr} (h : ∀ a ∈ A, a ∈ B) : ∀ {u : Value}, OkU A u → OkU B u := fun {u} x => by
  cases u with
  | ref a => exact h a x
  | none => trivial
  | bool b => trivial
  | int i t => trivial
  | str s t => trivial
  | bytes b t => trivial
  | _ => exact False.elim x
theorem relV_toV {A : List Addr} {u : Value} (x : OkU A u) : RelV (toV u) u := by
  cases u with
  | ref a => rfl
  | none => rfl
  | bool b => rfl
  | int i t => exact ⟨t, rfl⟩
  | str s t => exact ⟨t, rfl⟩
  | bytes b t => exact ⟨t, rfl⟩
  | _ => exact False.elim x
theorem vals_toV {A : List Addr} : ∀ {vs : List Value}, (∀ u ∈ vs, OkU A u) → Vals (vs.map toV) vs
  | [], _ => .nil
  | u :: r, h => .cons (relV_toV (h u (List.mem_cons_self ..))) (vals_toV fun x hx => h x (List.mem_cons_of_mem _ hx))
def ArgOb (h : Heap) (A : List Addr) (a : Addr) : Prop := ∃ vs : List Value, vs.length ≤ sizeLine ∧ (∀ u ∈ vs, OkU A u) ∧
  (h.get? a = some { cls := .type "list", data := .seq vs.toArray } ∨ h.get? a = some { cls := .type "tuple", data := .seq vs.toArray })
theorem ArgOb.mono {h : Heap} {A B : List Addr} {a : Addr} (k : ∀ a ∈ A, a ∈ B) (x : ArgOb h A a) : ArgOb h B a := by
  obtain ⟨vs, h1, h2, h3⟩ := x
  exact ⟨vs, h1, fun u hu => (h2 u hu).mono k, h3⟩
theorem wellAll_len {P : Params} {h : Heap} : ∀ {vs : List Value} {ds : List WData}, WellAll P h vs ds → vs.length = ds.length
  | _, _, .nil => rfl
  | _, _, .cons _ b => by
    show _ + 1 = _ + 1
    rw [wellAll_len b]
theorem well_list {P : Params} {h : Heap} {v : Value} {ds : List WData} (x : Well P h v (.list ds)) : ∃ (a : Addr) (vs : List Value), v = .ref a ∧ h.get? a = some { cls := .type "list", data := .seq vs.toArray } ∧ WellAll P h vs ds := by
  cases x with
  | list ho hall => exact ⟨_, _, rfl, ho, hall⟩
theorem well_tuple {P : Params} {h : Heap} {v : Value} {ds : List WData} (x : Well P h v (.tuple ds)) : ∃ (a : Addr) (vs : List Value), v = .ref a ∧ h.get? a = some { cls := .type "tuple", data := .seq vs.toArray } ∧ WellAll P h vs ds := by
  cases x with
  | tuple ho hall => exact ⟨_, _, rfl, ho, hall⟩
theorem well_cons {P : Params} {h : Heap} {us : List Value} {d : WData} {ds : List WData} (x : WellAll P h us (d :: ds)) : ∃ (v : Value) (vs : List Value), us = v :: vs ∧ Well P h v d ∧ WellAll P h vs ds := by
  cases x with
  | cons a b => exact ⟨_, _, rfl, a, b⟩
theorem line_of {n : Nat} (h : n ≤ 1048576) : n ≤ sizeLine := Nat.le_trans h (by decide)
section
variable {P : Params} {h : Heap}
mutual
theorem area_one : ∀ (d : WData) (v : Value), Well P h v d → plW d = true → d.weight ≤ 1048576 → ∃ A : List Addr, OkU A v ∧ ∀ a ∈ A, ArgOb h A a
  | .none, _, x, _, _ => by
    cases x
    exact ⟨[], trivial, fun a m => absurd m (by simp)⟩
  | .bool b, _, x, _, _ => by
    cases x
    exact ⟨[], trivial, fun a m => absurd m (by simp)⟩
  | .int i, _, x, _, _ => by
    cases x
    exact ⟨[], trivial, fun a m => absurd m (by simp)⟩
  | .str s, _, x, _, _ => by
    cases x
    exact ⟨[], trivial, fun a m => absurd m (by simp)⟩
  | .bytes b, _, x, _, _ => by
    cases x
    exact ⟨[], trivial, fun a m => absurd m (by simp)⟩
  | .list ds, _, x, p, z => by
    obtain ⟨a, vs, rfl, ho, hall⟩ := well_list x
    have z2 : WData.weightAll ds ≤ 1048576 := z
    obtain ⟨A, h1, h2⟩ := area_all ds _ hall p fun d hd => Nat.le_trans (weight_mem hd) z2
    have k : ∀ b ∈ A, b ∈ a :: A := fun b hb => List.mem_cons_of_mem _ hb
    refine ⟨a :: A, List.mem_cons_self .., fun b hb => ?_⟩
    rcases List.mem_cons.mp hb with e | m
    · rw [e]
      exact ⟨vs, line_of (by rw [wellAll_len hall]; exact Nat.le_trans (PySem.W.length_le_weightAllW ds) z2), fun u hu => (h1 u hu).mono k, .inl ho⟩
    · exact (h2 b m).mono k
  | .tuple ds, _, x, p, z => by
    obtain ⟨a, vs, rfl, ho, hall⟩ := well_tuple x
    have z2 : WData.weightAll ds ≤ 1048576 := z
    obtain ⟨A, h1, h2⟩ := area_all ds _ hall p fun d hd => Nat.le_trans (weight_mem hd) z2
    have k : ∀ b ∈ A, b ∈ a :: A := fun b hb => List.mem_cons_of_mem _ hb
    refine ⟨a :: A, List.mem_cons_self .., fun b hb => ?_⟩
    rcases List.mem_cons.mp hb with e | m
    · rw [e]
      exact ⟨vs, line_of (by rw [wellAll_len hall]; exact Nat.le_trans (PySem.W.length_le_weightAllW ds) z2), fun u hu => (h1 u hu).mono k, .inr ho⟩
    · exact (h2 b m).mono k
  | .float _, _, _, p, _ => Bool.noConfusion (show false = true from p)
  | .dict _, _, _, p, _ => Bool.noConfusion (show false = true from p)
  | .bytearray _, _, _, p, _ => Bool.noConfusion (show false = true from p)
  | .set _, _, _, p, _ => Bool.noConfusion (show false = true from p)
  | .frozenset _, _, _, p, _ => Bool.noConfusion (show false = true from p)
  | .obj _ _, _, _, p, _ => Bool.noConfusion (show false = true from p)
theorem area_all : ∀ (ds : List WData) (vs : List Value), WellAll P h vs ds → plWs ds = true → (∀ d ∈ ds, d.weight ≤ 1048576) → ∃ A : List Addr, (∀ u ∈ vs, OkU A u) ∧ ∀ a ∈ A, ArgOb h A a
  | [], _, x, _, _ => by
    cases x
    exact ⟨[], fun u m => absurd m (by simp), fun a m => absurd m (by simp)⟩
  | d :: ds, _, x, p, z => by
    obtain ⟨v, vs, rfl, x1, x2⟩ := well_cons x
    have q : plW d = true ∧ plWs ds = true := Bool.and_eq_true_iff.mp p
    obtain ⟨A, a1, a2⟩ := area_one d v x1 q.1 (z d (List.mem_cons_self ..))
    obtain ⟨B, b1, b2⟩ := area_all ds vs x2 q.2 fun e he => z e (List.mem_cons_of_mem _ he)
    have kA : ∀ b ∈ A, b ∈ A ++ B := fun b hb => List.mem_append.mpr (.inl hb)
    have kB : ∀ b ∈ B, b ∈ A ++ B := fun b hb => List.mem_append.mpr (.inr hb)
    refine ⟨A ++ B, fun u hu => ?_, fun b hb => ?_⟩
    · rcases List.mem_cons.mp hu with e | m
      · rw [e]
        exact a1.mono kA
      · exact (b1 u m).mono kB
    · rcases List.mem_append.mp hb with m | m
      · exact (a2 b m).mono kA
      · exact (b2 b m).mono kB
end
end
def hoOf (o : Obj) : Option HO := match o.data with
  | .seq vs _ => if (o.cls == Value.type "list") = true then some (.frz o (.lst (vs.toList.map toV))) else some (.frz o (.tup (vs.toList.map toV)))
  | _ => none
def argH (K : PySem.W.Frag) (h : Heap) (A : List Addr) : Hp := fun b => if b ∈ A then (if (K.lookup b).isNone = true then (h.get? b).bind hoOf else none) else none
def OnlyF (H : Hp) : Prop := ∀ b, H b = none ∨ ∃ o u, H b = some (.frz o u)
theorem hoOf_lst (vs : List Value) : hoOf { cls := .type "list", data := .seq vs.toArray } = some (.frz { cls := .type "list", data := .seq vs.toArray } (.lst (vs.map toV))) := by
  show (if (Value.type "list" == Value.type "list") = true then some (HO.frz { cls := .type "list", data := .seq vs.toArray } (.lst (vs.toArray.toList.map toV))) else some (HO.frz { cls := .type "list", data := .seq vs.toArray } (.tup (vs.toArray.toList.map toV)))) = _
  rw [if_pos (beq_self_eq_true _)]
theorem hoOf_tup (vs : List Value) : hoOf { cls := .type "tuple", data := .seq vs.toArray } = some (.frz { cls := .type "tuple", data := .seq vs.toArray } (.tup (vs.map toV))) := by
  show (if (Value.type "tuple" == Value.type "list") = true then some (HO.frz { cls := .type "tuple", data := .seq vs.toArray } (.lst (vs.toArray.toList.map toV))) else some (HO.frz { cls := .type "tuple", data := .seq vs.toArray } (.tup (vs.toArray.toList.map toV)))) = _
  rw [if_neg (by decide)]
section
variable {P : Program} {w : World} {K : PySem.W.Frag} {h : Heap} {A : List Addr}
theorem argH_at {b : Addr} {o : Obj} (hb : b ∈ A) (hk : K.lookup b = none) (e : h.get? b = some o) : argH K h A b = hoOf o := by
  unfold argH
  rw [if_pos hb, hk, if_pos (show (none : Option Obj).isNone = true from rfl), e] <;> rfl
theorem of_argH {b : Addr} {u : HO} (q : argH K h A b = some u) : b ∈ A ∧ K.lookup b = none := by
  unfold argH at q
  by_cases hb : b ∈ A
  · rw [if_pos hb] at q
    cases hk : K.lookup b with
    | none => exact ⟨hb, rfl⟩
    | some o =>
      rw [hk, if_neg (by simp)] at q
      cases q
  · rw [if_neg hb] at q
    cases q
theorem argH_is (ar : ∀ a ∈ A, ArgOb h A a) {b : Addr} {u : HO} (q : argH K h A b = some u) : K.lookup b = none ∧ ∃ vs : List Value, vs.length ≤ sizeLine ∧ (∀ u ∈ vs, OkU A u) ∧
    ((h.get? b = some { cls := .type "list", data := .seq vs.toArray } ∧ u = .frz { cls := .type "list", data := .seq vs.toArray } (.lst (vs.map toV))) ∨
     (h.get? b = some { cls := .type "tuple", data := .seq vs.toArray } ∧ u = .frz { cls := .type "tuple", data := .seq vs.toArray } (.tup (vs.map toV)))) := by
  obtain ⟨hb, hk⟩ := of_argH q
  obtain ⟨vs, h1, h2, h3⟩ := ar b hb
  refine ⟨hk, vs, h1, h2, ?_⟩
  rcases h3 with e | e
  · rw [argH_at hb hk e, hoOf_lst] at q
    exact .inl ⟨e, (Option.some.inj q).symm⟩
  · rw [argH_at hb hk e, hoOf_tup] at q
    exact .inr ⟨e, (Option.some.inj q).symm⟩
theorem argH_only (ar : ∀ a ∈ A, ArgOb h A a) : OnlyF (argH K h A) := fun b => by
  cases q : argH K h A b with
  | none => exact .inl rfl
  | some u =>
    obtain ⟨_, vs, _, _, ⟨_, e⟩ | ⟨_, e⟩⟩ := argH_is ar q
    · exact .inr ⟨_, _, by rw [e]⟩
    · exact .inr ⟨_, _, by rw [e]⟩
theorem argH_ok (ar : ∀ a ∈ A, ArgOb h A a) : HOk P w (argH K h A) h := fun b u q => by
  obtain ⟨_, vs, h1, h2, ⟨e, rfl⟩ | ⟨e, rfl⟩⟩ := argH_is ar q
  · exact ⟨e, by rw [List.length_map]; exact h1, vs, _, vals_toV h2, e⟩
  · exact ⟨e, by rw [List.length_map]; exact h1, vs, vals_toV h2, _, e, rfl, _, rfl⟩
theorem seq_inj {c c' : Value} {vs us : List Value} (e : (some { cls := c, data := .seq vs.toArray } : Option Obj) = some { cls := c', data := .seq us.toArray }) : c = c' ∧ vs = us := by
  have e1 := Option.some.inj e
  have e2 : c = c' := congrArg Obj.cls e1
  have e3 : Data.seq vs.toArray = Data.seq us.toArray := congrArg Obj.data e1
  injection e3 with e4
  refine ⟨e2, ?_⟩
  have e5 := congrArg Array.toList e4
  simpa using e5
theorem argL (KX : K.In h) (ar : ∀ a ∈ A, ArgOb h A a) {a : Addr} {vs : List Value} (ha : a ∈ A) (e : h.get? a = some { cls := .type "list", data := .seq vs.toArray }) : (∀ u ∈ vs, OkU A u) ∧ SqL K (argH K h A) a (vs.map toV) := by
  obtain ⟨us, h1, h2, h3⟩ := ar a ha
  have hu : us = vs := by
    rcases h3 with q | q
    · rw [e] at q
      exact (seq_inj q).2.symm
    · rw [e] at q
      exact absurd (Value.type.inj (seq_inj q).1) (by decide)
  subst hu
  refine ⟨h2, ?_⟩
  cases hk : K.lookup a with
  | none => exact .inl (.inr ⟨_, by rw [argH_at ha hk e, hoOf_lst]⟩)
  | some o =>
    have e2 := KX a o hk
    rw [e] at e2
    obtain rfl := Option.some.inj e2
    exact .inr ⟨_, us.toArray, _, hk, rfl, rfl, rfl, by rw [List.size_toArray]; exact h1, by simpa using vals_toV h2⟩
theorem argT (KX : K.In h) (ar : ∀ a ∈ A, ArgOb h A a) {a : Addr} {vs : List Value} (ha : a ∈ A) (e : h.get? a = some { cls := .type "tuple", data := .seq vs.toArray }) : (∀ u ∈ vs, OkU A u) ∧ SqT K (argH K h A) a (vs.map toV) := by
  obtain ⟨us, h1, h2, h3⟩ := ar a ha
  have hu : us = vs := by
    rcases h3 with q | q
    · rw [e] at q
      exact absurd (Value.type.inj (seq_inj q).1) (by decide)
    · rw [e] at q
      exact (seq_inj q).2.symm
  subst hu
  refine ⟨h2, ?_⟩
  cases hk : K.lookup a with
  | none => exact .inl (.inr ⟨_, by rw [argH_at ha hk e, hoOf_tup]⟩)
  | some o =>
    have e2 := KX a o hk
    rw [e] at e2
    obtain rfl := Option.some.inj e2
    exact .inr ⟨_, us.toArray, _, hk, rfl, rfl, by rw [List.size_toArray]; exact h1, by simpa using vals_toV h2⟩
mutual
theorem dw_one {Pm : Params} (KX : K.In h) (ar : ∀ a ∈ A, ArgOb h A a) : ∀ (d : WData) (v : Value), Well Pm h v d → plW d = true → OkU A v → Dw K (argH K h A) (toV v) d
  | .none, _, x, _, _ => by
    cases x
    exact .non
  | .bool b, _, x, _, _ => by
    cases x
    exact .bl b
  | .int i, _, x, _, _ => by
    cases x
    exact .int i
  | .str s, _, x, _, _ => by
    cases x
    exact .str s
  | .bytes b, _, x, _, _ => by
    cases x
    have z := Dw.byt (K := K) (H := argH K h A) b.toArray
    exact z
  | .list ds, _, x, p, hu => by
    obtain ⟨a, vs, rfl, ho, hall⟩ := well_list x
    obtain ⟨h2, hs⟩ := argL KX ar hu ho
    exact .lst hs (dw_all KX ar ds _ hall p h2)
  | .tuple ds, _, x, p, hu => by
    obtain ⟨a, vs, rfl, ho, hall⟩ := well_tuple x
    obtain ⟨h2, hs⟩ := argT KX ar hu ho
    exact .tup hs (dw_all KX ar ds _ hall p h2)
  | .float _, _, _, p, _ => Bool.noConfusion (show false = true from p)
  | .dict _, _, _, p, _ => Bool.noConfusion (show false = true from p)
  | .bytearray _, _, _, p, _ => Bool.noConfusion (show false = true from p)
  | .set _, _, _, p, _ => Bool.noConfusion (show false = true from p)
  | .frozenset _, _, _, p, _ => Bool.noConfusion (show false = true from p)
  | .obj _ _, _, _, p, _ => Bool.noConfusion (show false = true from p)
theorem dw_all {Pm : Params} (KX : K.In h) (ar : ∀ a ∈ A, ArgOb h A a) : ∀ (ds : List WData) (vs : List Value), WellAll Pm h vs ds → plWs ds = true → (∀ u ∈ vs, OkU A u) → DwAll K (argH K h A) (vs.map toV) ds
  | [], _, x, _, _ => by
    cases x
    exact .nil
  | d :: ds, _, x, p, hu => by
    obtain ⟨v, vs, rfl, x1, x2⟩ := well_cons x
    have q : plW d = true ∧ plWs ds = true := Bool.and_eq_true_iff.mp p
    exact .cons (dw_one KX ar d v x1 q.1 (hu _ (List.mem_cons_self ..))) (dw_all KX ar ds vs x2 q.2 fun u m => hu u (List.mem_cons_of_mem _ m))
end
end
theorem spec_call {P : Program} {w : World} {K : PySem.W.Frag} {mg mb : Str → Option Value} {CX : CXT} {k : Nat} {fa : Addr} {fd : FuncData} {ps : List Str} {sp : Sp} {s₁ : Shared} {vals : List Value} {ds : List WData} {R : PySem.W.WRecords} {cl : Str → Option Addr} {d0 : WData}
    (KX : K.In s₁.heap) (hns : s₁.heap.Ns mainGlobals mg) (hb : s₁.heap.Ns builtinsNs mb) (hbb : ∀ x : Str, x ≠ "__name__" → mb x = bootBuiltins x) (hlim : s₁.heap.NoLimit) (hg : s₁.gens = #[])
    (hwl : WellAll w.params s₁.heap vals ds) (hpl : plWs ds = true) (hwt : ∀ d ∈ ds, d.weight ≤ 1048576) (hr : Room k callerA)
    (F : ∀ base : Heap, K.In base → base.Ns mainGlobals mg → FnOk P w K mg base CX k fa fd ps sp) (hbind : ∀ (s : Shared) (us : List Value), us.length = ps.length → BindsTo s fd ⟨us, []⟩ (ps.zip us)) (hlen : ds.length = ps.length)
    (hsp : ∀ (H : Hp) (xs : List V), OnlyF H → DwAll K H xs ds → sp xs H (fun v H' => Dw K H' v d0) fun _ _ _ => False)
    (hCX : ∀ H e s', CX [] H s₁ (fun _ _ _ => False) e s' → False) :
    codeAny (model P w) callerA (.call (.ref fa) ⟨vals, []⟩) (fun r s' => ∃ u as, r = .ok (.ret u) ∧ ReadsW R cl s'.heap u d0 as ∧ OldK s₁.heap s'.heap ∧ s'.os = s₁.os ∧ AllBare s'.gens) s₁ := by
  obtain ⟨A, ho, ar⟩ := area_all ds vals hwl hpl hwt
  have hO : OnlyF (argH K s₁.heap A) := argH_only ar
  have hok : HOk P w (argH K s₁.heap A) s₁.heap := argH_ok ar
  have hS := dw_all KX ar ds vals hwl hpl ho
  have hV := vals_toV ho
  have hK : ∀ b u, argH K s₁.heap A b = some u → K.lookup b = none := fun b u q => (argH_is ar q).1
  have noA : ∀ {b : Addr} {o : Obj} {es : Array DictEntry} {ep : Nat}, s₁.heap.get? b = some o → o.data = .dict es ep → argH K s₁.heap A b = none := fun {b o es ep} e d => by
    cases q : argH K s₁.heap A b with
    | none => rfl
    | some u =>
      obtain ⟨_, vs, _, _, ⟨e2, _⟩ | ⟨e2, _⟩⟩ := argH_is ar q
      · rw [e2] at e
        cases e
        have d' : Data.seq vs.toArray _ = Data.dict es ep := d
        cases d'
      · rw [e2] at e
        cases e
        have d' : Data.seq vs.toArray _ = Data.dict es ep := d
        cases d'
  generalize argH K s₁.heap A = H at hO hok hS hK noA
  have base_of : ∀ {b : Addr} {o : Obj}, s₁.heap.get? b = some o → H b = none → (hidT s₁.heap H).get? b = some o := fun e n => hidT_get e n
  have nsK : ∀ {b : Addr} {m : Str → Option Value}, s₁.heap.Ns b m → (hidT s₁.heap H).Ns b m := fun {b m} ⟨o, es, ep, e, d, r⟩ => ⟨o, es, ep, base_of e (noA e d), d, r⟩
  have nK : ∀ b o, K.lookup b = some o → H b = none := fun b o e => by
    cases q : H b with
    | none => rfl
    | some u =>
      rw [hK b u q] at e
      cases e
  have hKb : K.In (hidT s₁.heap H) := fun b o e => base_of (KX b o e) (nK b o e)
  have hM : Mod K mg (hidT s₁.heap H) := ⟨hKb, nsK hns, ⟨mb, nsK hb, hbb⟩, let ⟨mc, h1, h2⟩ := hlim; ⟨mc, nsK h1, h2⟩⟩
  have e0 : Env0 P w K mg (hidT s₁.heap H) callerA [] s₁ H := ⟨rfl, hM, fun b o e => of_hidT e, Nat.le_of_eq (hidT_size _ _), trivial, fun b hb => absurd (show b ∈ ([] : List Addr) from hb) (by simp), hok, .of_eq hg⟩
  have hl : vals.length = ps.length := by rw [wellAll_len hwl]; exact hlen
  refine codeAny_mono ((F _ hKb (nsK hns)).run callerA [] s₁ H ⟨vals, []⟩ vals (vals.map toV) _ _ hr e0 (hbind s₁ vals hl) hV (hsp H _ hO hS)) fun r s' x => ?_
  cases r with
  | error e => exact (hCX H e s' x).elim
  | ok fl =>
    cases fl with
    | next => exact False.elim x
    | brk => exact False.elim x
    | cont => exact False.elim x
    | ret u =>
      obtain ⟨v, H', os, bare, un, hok', r', q⟩ := x
      have kept : ∀ b o, s₁.heap.get? b = some o → s'.heap.get? b = some o := fun b o e => by
        cases q2 : H b with
        | none => exact un.keep b o e q2 (by intro z; exact absurd (show b ∈ ([] : List Addr) from z) (by simp)) (by simp)
        | some u2 =>
          rcases hO b with z | ⟨ob, u3, z⟩
          · rw [q2] at z
            cases z
          · have z2 := un.frzs b ob _ z
            obtain ⟨e1, _⟩ := hok b _ z
            obtain ⟨e2, _⟩ := hok' b _ z2
            rw [e] at e1
            cases e1
            exact e2
      have KX' : K.In s'.heap := fun b o e => kept b o (KX b o e)
      obtain ⟨as, hrd⟩ := Dw.reads (R := R) (cl := cl) hok' KX' d0 v u q r'
      exact ⟨u, as, rfl, hrd, OldK.of_keep kept, os, bare⟩
theorem layable_weight {ds : List WData} (h : WData.layableAll ds = true) : ∀ d ∈ ds, d.weight ≤ 1048576 := fun d hd =>
  (PySem.W.layableW_iff.mp (List.all_eq_true.mp h d hd)).2.2
theorem encAll_len : ∀ (cs : List Codec) (a : Codec.denoteAll cs), (Codec.encAll cs a).length = cs.length
  | [], _ => rfl
  | c :: cs, a => by
    show (Codec.encAll cs a.2).length + 1 = cs.length + 1
    rw [encAll_len cs a.2]
theorem walk_spec {r : OpenSpec} {k : Nat} {q : Program} {loose : List Str} {XP : (Str → Option Value) → Heap → Prop} {YP : World → Heap → Prop} {d : DefRec} {K : Params → PySem.W.Frag} {CX : World → CXT} {ps : List Str} {sp : World → Sp}
    (hwell : r.wellSaid = true) (hdf : d.params.defaults = []) (hlen : r.args.length = ps.length) (hr : Room k callerA)
    (hY : ∀ (w : World) (h : Heap), YP w h → (K w.params).In h)
    (F : ∀ (w : World) (mg : Str → Option Value) (fa : Addr) (h : Heap), YP w h → (K w.params).In h → h.Ns mainGlobals mg → mg d.name = some (.ref fa) →
      ∃ fd : FuncData, (∀ (s : Shared) (us : List Value), us.length = ps.length → BindsTo s fd ⟨us, []⟩ (ps.zip us)) ∧
        ∀ base : Heap, (K w.params).In base → base.Ns mainGlobals mg → FnOk r.prog w (K w.params) mg base (CX w) k fa fd ps (sp w))
    (hsp : ∀ (w : World) (H : Hp) (xs : List V) (a : Codec.denoteAll r.args), OnlyF H → Codec.withinAll r.args a = true → Codec.app r.args r.asked a = true → DwAll (K w.params) H xs (Codec.encAll r.args a) →
      sp w xs H (fun v H' => Dw (K w.params) H' v (r.ret.enc (Codec.app r.args r.f a))) fun _ _ _ => False)
    (hCX : ∀ (w : World) (H : Hp) (s : Shared) (e : Value) (s' : Shared), CX w [] H s (fun _ _ _ => False) e s' → False) :
    PySem.W.WalkOS q loose XP YP r d [] (fun f vs => PySem.call f vs) := by
  intro w s_0 s₁ mg mb G Y fa o pm cd doc dV kV ho hd hcd hD hmg hg args vals as hpre hlay hrd hwl hlo
  obtain ⟨a, e1, e2⟩ := PySem.W.os_pre_some hpre
  obtain ⟨e3, hwi⟩ := Codec.encAll_of_decAll r.args args a e1
  subst e3
  have KX := hY w _ Y
  obtain ⟨fd, hb, hF⟩ := F w mg fa _ Y KX G.T.g hmg
  refine PySem.W.enter_call (codeAny_mono (spec_call (R := []) (cl := classAt s_0.heap) (d0 := r.ret.enc (Codec.app r.args r.f a)) KX G.T.g G.T.b G.T.builtins G.T.nolimit hg hwl (pl_encAll _ _) (layable_weight hlay) hr hF hb (by rw [encAll_len]; exact hlen)
    (fun H xs hO hS => hsp w H xs a hO hwi e2 hS) fun H e s' => hCX w H s₁ e s') fun r' s' hq => ?_)
  obtain ⟨u, as', rfl, h1, h2, h3, h4⟩ := hq
  exact ⟨.inl ⟨u, _, as', rfl, fun _ => rfl, h1, (OpenSpec.post_iff hwell hwi _ _).mpr rfl, fun z => Bool.noConfusion (show false = true from z)⟩, h2, h3, h4⟩
theorem walk_specK {r : OpenSpec} {k : Nat} {q : Program} {loose : List Str} {XP : (Str → Option Value) → Heap → Prop} {YP : World → Heap → Prop} {d : DefRec} {K : Params → PySem.W.Frag} {CX : CXT} {ps : List Str} {sp : PySem.W.Frag → Sp}
    (hwell : r.wellSaid = true) (hdf : d.params.defaults = []) (hlen : r.args.length = ps.length) (hr : Room k callerA)
    (hY : ∀ (w : World) (h : Heap), YP w h → (K w.params).In h)
    (F : ∀ (w : World) (mg : Str → Option Value) (fa : Addr) (h : Heap), YP w h → (K w.params).In h → h.Ns mainGlobals mg → mg d.name = some (.ref fa) →
      ∃ fd : FuncData, (∀ (s : Shared) (us : List Value), us.length = ps.length → BindsTo s fd ⟨us, []⟩ (ps.zip us)) ∧
        ∀ base : Heap, (K w.params).In base → base.Ns mainGlobals mg → FnOk r.prog w (K w.params) mg base CX k fa fd ps (sp (K w.params)))
    (hsp : ∀ (K : PySem.W.Frag) (H : Hp) (xs : List V) (a : Codec.denoteAll r.args), OnlyF H → Codec.withinAll r.args a = true → Codec.app r.args r.asked a = true → DwAll K H xs (Codec.encAll r.args a) →
      sp K xs H (fun v H' => Dw K H' v (r.ret.enc (Codec.app r.args r.f a))) fun _ _ _ => False)
    (hCX : ∀ (H : Hp) (s : Shared) (e : Value) (s' : Shared), CX [] H s (fun _ _ _ => False) e s' → False) :
    PySem.W.WalkOS q loose XP YP r d [] (fun f vs => PySem.call f vs) :=
  walk_spec (K := K) (CX := fun _ => CX) (sp := fun w => sp (K w.params)) hwell hdf hlen hr hY F (fun w H xs a h1 h2 h3 h4 => hsp (K w.params) H xs a h1 h2 h3 h4) fun _ H s e s' => hCX H s e s'
end L2
end
section
set_option Elab.async false
set_option linter.all false
namespace Hs
open Kp122 (Coins canPay)
/-! ### coins -/
def most (p : Nat → Bool) : Nat → Nat
  | 0 => 0
  | m + 1 => if p (m + 1) = true then m + 1 else most p m
theorem most_le (p : Nat → Bool) : ∀ m, most p m ≤ m
  | 0 => Nat.le_refl _
  | m + 1 => by
    unfold most
    split
    · exact Nat.le_refl _
    · exact Nat.le_trans (most_le p m) (Nat.le_succ _)
theorem most_ge (p : Nat → Bool) : ∀ m i, i ≤ m → p i = true → i ≤ most p m
  | 0, i, h, _ => h
  | m + 1, i, h, hp => by
    unfold most
    split
    · exact h
    · rename_i hn
      have : i ≠ m + 1 := fun e => hn (e ▸ hp)
      exact most_ge p m i (by omega) hp
theorem most_ok (p : Nat → Bool) : ∀ m i, i ≤ m → p i = true → p (most p m) = true
  | 0, i, h, hp => by
    have : i = 0 := by omega
    subst this
    exact hp
  | m + 1, i, h, hp => by
    unfold most
    split
    · assumption
    · rename_i hn
      have : i ≠ m + 1 := fun e => hn (e ▸ hp)
      exact most_ok p m i (by omega) hp
theorem most_eq {p : Nat → Bool} {m i : Nat} (h : i ≤ m) (hp : p i = true) (hm : ∀ j, j ≤ m → p j = true → j ≤ i) : most p m = i := by
  have h1 := most_ge p m i h hp
  have h2 := hm _ (most_le p m) (most_ok p m i h hp)
  omega
def plan : Coins → Nat → List Nat
  | [], _ => []
  | (v, k) :: r, n => most (fun i => canPay r (n - i * v)) (min k (n / v)) :: plan r (n - most (fun i => canPay r (n - i * v)) (min k (n / v)) * v)
def CPos (c : Coins) : Prop := ∀ x ∈ c, 1 ≤ x.1
theorem CPos.tail {x : Nat × Nat} {r : Coins} (h : CPos (x :: r)) : CPos r := fun y hy => h y (List.mem_cons_of_mem _ hy)
theorem CPos.head {v k : Nat} {r : Coins} (h : CPos ((v, k) :: r)) : 1 ≤ v := h (v, k) (List.mem_cons_self ..)
theorem le_div {v n i : Nat} (hv : 1 ≤ v) : i ≤ n / v ↔ i * v ≤ n := Nat.le_div_iff_mul_le hv
theorem canPay_cons {v k n : Nat} {r : Coins} (hv : 1 ≤ v) : canPay ((v, k) :: r) n = true ↔ ∃ i, i ≤ k ∧ i * v ≤ n ∧ canPay r (n - i * v) = true := by
  rw [show canPay ((v, k) :: r) n = (List.range (min k (if v = 0 then 0 else n / v) + 1)).any (fun i => canPay r (n - i * v)) from rfl, List.any_eq_true]
  have e : (if v = 0 then 0 else n / v) = n / v := if_neg (by omega)
  rw [e]
  constructor
  · rintro ⟨i, hi, h⟩
    have hi' := List.mem_range.mp hi
    have h1 : i ≤ n / v := by omega
    exact ⟨i, by omega, (le_div hv).mp h1, h⟩
  · rintro ⟨i, h1, h2, h3⟩
    have := (le_div hv).mpr h2
    exact ⟨i, List.mem_range.mpr (by omega), h3⟩
theorem canPay_nil {n : Nat} : canPay [] n = true ↔ n = 0 := by
  unfold canPay
  exact beq_iff_eq
theorem canPay_zero : ∀ c : Coins, CPos c → canPay c 0 = true
  | [], _ => rfl
  | (v, k) :: r, h => (canPay_cons h.head).mpr ⟨0, Nat.zero_le _, by omega, by simpa using canPay_zero r h.tail⟩
/-- the candidates of the first kind -/
theorem cand {v k n i : Nat} (hv : 1 ≤ v) : i ≤ min k (n / v) ↔ i ≤ k ∧ i * v ≤ n := by
  rw [Nat.le_min, le_div hv]
theorem plan_head {v k n : Nat} {r : Coins} (hv : 1 ≤ v) (h : canPay ((v, k) :: r) n = true) :
    ∃ i, i ≤ k ∧ i * v ≤ n ∧ canPay r (n - i * v) = true ∧ (∀ j, j ≤ k → j * v ≤ n → canPay r (n - j * v) = true → j ≤ i) ∧
      most (fun i => canPay r (n - i * v)) (min k (n / v)) = i ∧ plan ((v, k) :: r) n = i :: plan r (n - i * v) := by
  obtain ⟨i, h1, h2, h3⟩ := (canPay_cons hv).mp h
  have hi : i ≤ min k (n / v) := (cand hv).mpr ⟨h1, h2⟩
  have hl := (cand hv).mp (most_le (fun i => canPay r (n - i * v)) (min k (n / v)))
  refine ⟨_, hl.1, hl.2, most_ok (fun i => canPay r (n - i * v)) _ i hi h3, fun j a b c => ?_, rfl, rfl⟩
  exact most_ge (fun i => canPay r (n - i * v)) _ j ((cand hv).mpr ⟨a, b⟩) c
def dec : Coins → Nat → Coins
  | [], _ => []
  | (v, m) :: r, 0 => (v, m - 1) :: r
  | x :: r, k + 1 => x :: dec r k
theorem dec_pos : ∀ {c : Coins} {k : Nat}, CPos c → CPos (dec c k)
  | [], _, h => h
  | (v, m) :: r, 0, h => fun x hx => by
    unfold dec at hx
    rcases List.mem_cons.mp hx with e | e
    · subst e; exact h.head
    · exact h.tail x e
  | y :: r, k + 1, h => fun x hx => by
    unfold dec at hx
    rcases List.mem_cons.mp hx with e | e
    · rw [e]; exact h y (List.mem_cons_self ..)
    · exact dec_pos h.tail x e
/-- a coin laid back -/
theorem pay_back : ∀ {c : Coins} {k v m n : Nat}, CPos c → c[k]? = some (v, m) → 0 < m → canPay (dec c k) n = true → canPay c (n + v) = true
  | [], k, v, m, n, _, h, _, _ => by simp at h
  | (v, m) :: r, 0, v', m', n, hp, h, hm, h1 => by
    have e := Option.some.inj h
    obtain ⟨e1, e2⟩ := Prod.mk.inj e
    subst e1 e2
    unfold dec at h1
    obtain ⟨i, a, b, c⟩ := (canPay_cons hp.head).mp h1
    refine (canPay_cons hp.head).mpr ⟨i + 1, by omega, ?_, ?_⟩
    · rw [Nat.add_mul, Nat.one_mul]; omega
    · rw [Nat.add_mul, Nat.one_mul, show n + v - (i * v + v) = n - i * v by omega]; exact c
  | (v, m) :: r, k + 1, v', m', n, hp, h, hm, h1 => by
    unfold dec at h1
    obtain ⟨i, a, b, c⟩ := (canPay_cons hp.head).mp h1
    have := pay_back hp.tail (show r[k]? = some (v', m') from h) hm c
    refine (canPay_cons hp.head).mpr ⟨i, a, by omega, ?_⟩
    rw [show n + v' - i * v = n - i * v + v' by omega]; exact this
def zeros (k : Nat) : List Nat := List.replicate k 0
/-- no kind ahead of the plan's first coin is in any payment -/
theorem plan_first : ∀ {c : Coins} {n j k v m : Nat} {rest : List Nat}, CPos c → canPay c n = true → plan c n = zeros k ++ rest → j < k → c[j]? = some (v, m) → 0 < m → v ≤ n → canPay (dec c j) (n - v) = true → False
  | [], n, j, k, v, m, rest, _, _, _, _, h, _, _, _ => by simp at h
  | (v, m) :: r, n, 0, k + 1, v', m', rest, hp, hn, he, hj, h, hm, hv, h1 => by
    obtain ⟨e1, e2⟩ := Prod.mk.inj (Option.some.inj h)
    subst e1 e2
    obtain ⟨i, a, b, c, mx, _, e⟩ := plan_head hp.head hn
    rw [e] at he
    have hi : i = 0 := (List.cons.inj he).1
    unfold dec at h1
    obtain ⟨i', a', b', c'⟩ := (canPay_cons hp.head).mp h1
    have := mx (i' + 1) (by omega) (by rw [Nat.add_mul, Nat.one_mul]; omega) (by rw [Nat.add_mul, Nat.one_mul, show n - (i' * v + v) = n - v - i' * v by omega]; exact c')
    omega
  | (v, m) :: r, n, j + 1, k + 1, v', m', rest, hp, hn, he, hj, h, hm, hv, h1 => by
    obtain ⟨i, a, b, c, mx, _, e⟩ := plan_head hp.head hn
    rw [e] at he
    have hi : i = 0 := (List.cons.inj he).1
    have he' : plan r (n - i * v) = zeros k ++ rest := (List.cons.inj he).2
    subst hi
    simp only [Nat.zero_mul, Nat.sub_zero] at c he'
    unfold dec at h1
    obtain ⟨i', a', b', c'⟩ := (canPay_cons hp.head).mp h1
    have h2 := pay_back hp.tail (show r[j]? = some (v', m') from h) hm c'
    have h3 : n - v' - i' * v + v' = n - i' * v := by omega
    rw [h3] at h2
    have := mx i' a' (by omega) h2
    have hi' : i' = 0 := by omega
    subst hi'
    simp only [Nat.zero_mul, Nat.sub_zero] at c'
    exact plan_first hp.tail c he' (by omega) (show r[j]? = some (v', m') from h) hm hv c'
/-- the plan's first coin paid -/
theorem plan_pay : ∀ {c : Coins} {n k i : Nat} {rest : List Nat}, CPos c → canPay c n = true → plan c n = zeros k ++ (i + 1) :: rest →
    ∃ v m, c[k]? = some (v, m) ∧ 0 < m ∧ v ≤ n ∧ canPay (dec c k) (n - v) = true ∧ plan (dec c k) (n - v) = zeros k ++ i :: rest
  | [], n, 0, i, rest, _, _, h => by simp [plan, zeros] at h
  | [], n, k + 1, i, rest, _, _, h => by simp [plan, zeros, List.replicate_succ] at h
  | (v, m) :: r, n, 0, i, rest, hp, hn, he => by
    obtain ⟨i', a, b, c, mx, _, e⟩ := plan_head hp.head hn
    rw [e] at he
    have hi : i' = i + 1 := (List.cons.inj he).1
    have he' : plan r (n - i' * v) = rest := (List.cons.inj he).2
    subst hi
    have hb : i * v + v ≤ n := by rw [Nat.add_mul, Nat.one_mul] at b; exact b
    have hc : canPay r (n - v - i * v) = true := by rw [Nat.add_mul, Nat.one_mul] at c; rw [show n - v - i * v = n - (i * v + v) by omega]; exact c
    have hcp : canPay ((v, m - 1) :: r) (n - v) = true := (canPay_cons hp.head).mpr ⟨i, by omega, by omega, hc⟩
    refine ⟨v, m, rfl, by omega, by omega, hcp, ?_⟩
    have hp2 : CPos ((v, m - 1) :: r) := dec_pos (c := (v, m) :: r) (k := 0) hp
    obtain ⟨j, ja, jb, jc, jx, _, je⟩ := plan_head hp2.head hcp
    have hj : j = i := by
      have h1 := jx i (by omega) (by omega) hc
      have h2 := mx (j + 1) (by omega) (by rw [Nat.add_mul, Nat.one_mul]; omega) (by rw [Nat.add_mul, Nat.one_mul, show n - (j * v + v) = n - v - j * v by omega]; exact jc)
      omega
    subst hj
    show plan ((v, m - 1) :: r) (n - v) = j :: rest
    rw [je, ← he', Nat.add_mul, Nat.one_mul, show n - v - j * v = n - (j * v + v) by omega]
  | (v, m) :: r, n, k + 1, i, rest, hp, hn, he => by
    obtain ⟨i', a, b, c, mx, _, e⟩ := plan_head hp.head hn
    rw [e] at he
    have hi : i' = 0 := (List.cons.inj he).1
    have he' : plan r (n - i' * v) = zeros k ++ (i + 1) :: rest := (List.cons.inj he).2
    subst hi
    simp only [Nat.zero_mul, Nat.sub_zero] at c he'
    obtain ⟨w, q, h1, h2, h3, h4, h5⟩ := plan_pay hp.tail c he'
    have hcp : canPay ((v, m) :: dec r k) (n - w) = true := (canPay_cons hp.head).mpr ⟨0, Nat.zero_le _, by omega, by simpa using h4⟩
    refine ⟨w, q, h1, h2, h3, hcp, ?_⟩
    have hp2 : CPos ((v, m) :: dec r k) := dec_pos (c := (v, m) :: r) (k := k + 1) hp
    obtain ⟨j, ja, jb, jc, jx, _, je⟩ := plan_head hp2.head hcp
    have hj : j = 0 := by
      have h6 := pay_back hp.tail h1 h2 jc
      rw [show n - w - j * v + w = n - j * v by omega] at h6
      have := mx j ja (by omega) h6
      omega
    subst hj
    show plan ((v, m) :: dec r k) (n - w) = 0 :: (zeros k ++ i :: rest)
    rw [je]
    simp only [Nat.zero_mul, Nat.sub_zero]
    rw [h5]
theorem plan_len : ∀ (c : Coins) (n : Nat), (plan c n).length = c.length
  | [], _ => rfl
  | (v, k) :: r, n => by
    show (plan r _).length + 1 = r.length + 1
    rw [plan_len r]
theorem plan_none : ∀ {c : Coins} {n : Nat}, CPos c → canPay c n = true → plan c n = zeros c.length → n = 0
  | [], n, _, h, _ => canPay_nil.mp h
  | (v, m) :: r, n, hp, hn, he => by
    obtain ⟨i', a, b, c, mx, _, e⟩ := plan_head hp.head hn
    rw [e] at he
    have hi : i' = 0 := (List.cons.inj he).1
    have he' : plan r (n - i' * v) = zeros r.length := (List.cons.inj he).2
    subst hi
    simp only [Nat.zero_mul, Nat.sub_zero] at c he'
    exact plan_none hp.tail c he'
theorem plan_le : ∀ {c : Coins} {n k i : Nat}, CPos c → (plan c n)[k]? = some i → ∃ v m, c[k]? = some (v, m) ∧ i ≤ m
  | [], n, k, i, _, h => by simp [plan] at h
  | (v, m) :: r, n, 0, i, hp, h => by
    have e : most (fun i => canPay r (n - i * v)) (min m (n / v)) = i := Option.some.inj h
    have := most_le (fun i => canPay r (n - i * v)) (min m (n / v))
    exact ⟨v, m, rfl, by omega⟩
  | (v, m) :: r, n, k + 1, i, hp, h => by
    obtain ⟨v', m', h1, h2⟩ := plan_le (k := k) hp.tail h
    exact ⟨v', m', h1, h2⟩
/-- where the first coin of a list of numbers stands -/
theorem split_zeros : ∀ l : List Nat, l = zeros l.length ∨ ∃ k i rest, l = zeros k ++ (i + 1) :: rest
  | [] => .inl rfl
  | 0 :: r => by
    rcases split_zeros r with h | ⟨k, i, rest, h⟩
    · left
      show 0 :: r = 0 :: zeros r.length
      rw [← h]
    · right
      exact ⟨k + 1, i, rest, by rw [h]; rfl⟩
  | (i + 1) :: r => .inr ⟨0, i, r, rfl⟩
/-- the greatest amount up to m that can be paid -/
def greatest (p : Nat → Bool) (m : Nat) : Nat := (((List.range (m + 1)).reverse).find? p).getD 0
theorem greatest_most (p : Nat → Bool) : ∀ m, greatest p m = most p m
  | 0 => by
    unfold greatest most
    show ((([0] : List Nat)).find? p).getD 0 = 0
    rw [List.find?_cons]
    split <;> rfl
  | m + 1 => by
    have ih := greatest_most p m
    unfold greatest at ih ⊢
    unfold most
    rw [List.range_succ, List.reverse_append, List.reverse_singleton, List.singleton_append, List.find?_cons]
    cases h : p (m + 1) with
    | true => simp
    | false => simpa using ih
end Hs
end
section
set_option Elab.async false
set_option linter.all false
namespace Hs
/-! ### sets of amounts: words of W bits -/
section
variable {W : Nat}
def bitAt (W : Nat) (us : List Nat) (n : Nat) : Bool := (us.getD (n / W) 0).testBit (n % W)
structure RepN (W : Nat) (us : List Nat) (L : Nat) (P : Nat → Bool) : Prop where
  len : us.length = L
  lt : ∀ u ∈ us, u < 2 ^ W
  bit : ∀ n, n < L * W → bitAt W us n = P n
theorem bitAt_nil (n : Nat) : bitAt W [] n = false := by
  unfold bitAt
  simp
theorem div_lt_of {n L : Nat} (hW : 0 < W) (h : n < L * W) : n / W < L := (Nat.div_lt_iff_lt_mul hW).mpr h
theorem bitAt_append (hW : 0 < W) (l r : List Nat) (n : Nat) : bitAt W (l ++ r) n = if n < l.length * W then bitAt W l n else bitAt W r (n - l.length * W) := by
  unfold bitAt
  rw [List.getD_eq_getElem?_getD, List.getElem?_append, List.getD_eq_getElem?_getD, List.getD_eq_getElem?_getD]
  by_cases h : n < l.length * W
  · rw [if_pos h, if_pos (div_lt_of hW h)]
  · have h1 : l.length ≤ n / W := (Nat.le_div_iff_mul_le hW).mpr (by omega)
    have h2 : (n - l.length * W) / W = n / W - l.length := by
      rw [Nat.mul_comm, Nat.sub_mul_div]
    have h3 : (n - l.length * W) % W = n % W := by
      have e : n = (n - l.length * W) + l.length * W := by omega
      conv => rhs; rw [e]
      rw [Nat.add_mul_mod_self_right]
    rw [if_neg h, if_neg (by omega), h2, h3]
theorem bitAt_zeros (k n : Nat) : bitAt W (List.replicate k 0) n = false := by
  unfold bitAt
  have : (List.replicate k 0).getD (n / W) 0 = 0 := by
    rw [List.getD_eq_getElem?_getD, List.getElem?_replicate]
    split <;> rfl
  rw [this, Nat.zero_testBit]
theorem rep_only (hW : 0 < W) (m : Nat) : RepN W (1 :: List.replicate m 0) (m + 1) (fun n => n == 0) := by
  refine ⟨by simp, fun u hu => ?_, fun n _ => ?_⟩
  · rcases List.mem_cons.mp hu with e | e
    · rw [e]; exact Nat.one_lt_two_pow (by omega)
    · rw [(List.mem_replicate.mp e).2]; exact Nat.two_pow_pos _
  · have e := bitAt_append hW [1] (List.replicate m 0) n
    rw [show (1 :: List.replicate m 0) = [1] ++ List.replicate m 0 from rfl, e]
    by_cases h : n < W
    · rw [if_pos (by simpa using h)]
      unfold bitAt
      rw [Nat.div_eq_of_lt h, Nat.mod_eq_of_lt h]
      show Nat.testBit 1 n = (n == 0)
      cases n with
      | zero => rfl
      | succ k => simp [Nat.testBit_succ]
    · rw [if_neg (by simpa using h), bitAt_zeros]
      have : n ≠ 0 := by omega
      simp [this]
theorem RepN.congr {us : List Nat} {L : Nat} {P Q : Nat → Bool} (h : RepN W us L P) (e : ∀ n, n < L * W → P n = Q n) : RepN W us L Q :=
  ⟨h.len, h.lt, fun n hn => (h.bit n hn).trans (e n hn)⟩
theorem RepN.get {us : List Nat} {L : Nat} {P : Nat → Bool} (hW : 0 < W) (h : RepN W us L P) {n : Nat} (hn : n < L * W) : ∃ u, us[n / W]? = some u ∧ u < 2 ^ W ∧ u.testBit (n % W) = P n := by
  have h1 : n / W < us.length := by rw [h.len]; exact div_lt_of hW hn
  refine ⟨us[n / W], List.getElem?_eq_getElem h1, h.lt _ (List.getElem_mem h1), ?_⟩
  have := h.bit n hn
  unfold bitAt at this
  rw [List.getD_eq_getElem?_getD, List.getElem?_eq_getElem h1] at this
  exact this
theorem rep_or {us vs : List Nat} {L : Nat} {P Q : Nat → Bool} (hW : 0 < W) (h : RepN W us L P) (g : RepN W vs L Q) : RepN W (List.zipWith (fun a b => a ||| b) us vs) L (fun n => P n || Q n) := by
  refine ⟨by rw [List.length_zipWith, h.len, g.len]; omega, fun u hu => ?_, fun n hn => ?_⟩
  · rw [← List.map_uncurry_zip_eq_zipWith] at hu
    obtain ⟨⟨a, b⟩, hm, e⟩ := List.mem_map.mp hu
    rw [← e]
    exact Nat.or_lt_two_pow (h.lt a (List.of_mem_zip hm).1) (g.lt b (List.of_mem_zip hm).2)
  · obtain ⟨u, e1, _, b1⟩ := h.get hW hn
    obtain ⟨v, e2, _, b2⟩ := g.get hW hn
    unfold bitAt
    rw [List.getD_eq_getElem?_getD, List.getElem?_zipWith, e1, e2]
    show (u ||| v).testBit (n % W) = _
    rw [Nat.testBit_or, b1, b2]
/-! raised -/
def rstep (W s : Nat) (st : List Nat × Nat) (w : Nat) : List Nat × Nat := (st.1 ++ [(w * 2 ^ s + st.2) % 2 ^ W], (w * 2 ^ s + st.2) / 2 ^ W)
structure RInv (W sk s : Nat) (l : List Nat) (st : List Nat × Nat) : Prop where
  len : st.1.length = sk + l.length
  lt : ∀ u ∈ st.1, u < 2 ^ W
  cl : st.2 < 2 ^ s
  bit : ∀ q, q < st.1.length * W → bitAt W st.1 q = (decide (sk * W + s ≤ q) && bitAt W l (q - (sk * W + s)))
  car : ∀ p, p < s → st.2.testBit p = bitAt W l (l.length * W + p - s)
theorem rinv_nil (sk s : Nat) : RInv W sk s [] (List.replicate sk 0, 0) := by
  refine ⟨by simp, fun u hu => ?_, Nat.two_pow_pos _, fun q _ => ?_, fun p _ => ?_⟩
  · rw [(List.mem_replicate.mp hu).2]; exact Nat.two_pow_pos _
  · rw [bitAt_zeros, bitAt_nil, Bool.and_false]
  · rw [bitAt_nil]; exact Nat.zero_testBit _
theorem rinv_step {sk s : Nat} {l : List Nat} {st : List Nat × Nat} {w : Nat} (hW : 0 < W) (hs : s < W) (h : RInv W sk s l st) (hw : w < 2 ^ W) : RInv W sk s (l ++ [w]) (rstep W s st w) := by
  have hc := h.cl
  have em : w * 2 ^ s + st.2 = 2 ^ s * w + st.2 := by rw [Nat.mul_comm]
  refine ⟨?_, fun u hu => ?_, ?_, fun q hq => ?_, fun p hp => ?_⟩
  · show (st.1 ++ [_]).length = _
    rw [List.length_append, List.length_append, h.len]
    show sk + l.length + 1 = sk + (l.length + 1)
    omega
  · rcases List.mem_append.mp hu with e | e
    · exact h.lt u e
    · rw [List.mem_singleton.mp e]; exact Nat.mod_lt _ (Nat.two_pow_pos _)
  · show (w * 2 ^ s + st.2) / 2 ^ W < 2 ^ s
    refine Nat.div_lt_of_lt_mul ?_
    have h1 : (w + 1) * 2 ^ s ≤ 2 ^ W * 2 ^ s := Nat.mul_le_mul_right _ hw
    rw [Nat.add_mul, Nat.one_mul] at h1
    omega
  · have hq' : q < (st.1.length + 1) * W := by
      have : (rstep W s st w).1.length = st.1.length + 1 := by
        show (st.1 ++ [_]).length = _
        rw [List.length_append]; rfl
      rw [this] at hq; exact hq
    show bitAt W (st.1 ++ [_]) q = _
    rw [bitAt_append hW]
    by_cases hlt : q < st.1.length * W
    · rw [if_pos hlt, h.bit q hlt, bitAt_append hW]
      by_cases hm : sk * W + s ≤ q
      · have : q - (sk * W + s) < l.length * W := by
          rw [h.len, Nat.add_mul] at hlt
          omega
        rw [if_pos this]
      · simp [hm]
    · rw [if_neg hlt]
      rw [h.len] at hlt hq'
      rw [h.len]
      have e1 : (sk + l.length) * W = sk * W + l.length * W := Nat.add_mul ..
      have e2 : (sk + l.length + 1) * W = sk * W + l.length * W + W := by rw [Nat.add_mul, e1, Nat.one_mul]
      rw [e1] at hlt
      rw [e2] at hq'
      rw [e1]
      obtain ⟨p, ep⟩ : ∃ p, q = sk * W + l.length * W + p := ⟨q - (sk * W + l.length * W), by omega⟩
      have hpW : p < W := by omega
      have hqp : q - (sk * W + l.length * W) = p := by omega
      rw [hqp]
      unfold bitAt
      rw [Nat.div_eq_of_lt hpW, Nat.mod_eq_of_lt hpW]
      show ((w * 2 ^ s + st.2) % 2 ^ W).testBit p = _
      rw [Nat.testBit_mod_two_pow, em, Nat.testBit_two_pow_mul_add _ hc]
      simp only [hpW, decide_true, Bool.true_and]
      show _ = (decide (sk * W + s ≤ q) && bitAt W (l ++ [w]) (q - (sk * W + s)))
      rw [bitAt_append hW]
      by_cases hps : p < s
      · rw [if_pos hps, h.car p hps]
        by_cases hm : sk * W + s ≤ q
        · have h1 : q - (sk * W + s) < l.length * W := by omega
          have h2 : q - (sk * W + s) = l.length * W + p - s := by omega
          rw [if_pos h1, h2]
          simp [hm]
        · have hl : l.length = 0 := by
            cases hl : l.length with
            | zero => rfl
            | succ m => rw [hl, Nat.add_mul, Nat.one_mul] at ep; omega
          have : l = [] := List.length_eq_zero_iff.mp hl
          subst this
          rw [bitAt_nil]
          simp [hm]
      · have hm : sk * W + s ≤ q := by omega
        have h1 : ¬ q - (sk * W + s) < l.length * W := by omega
        have h2 : q - (sk * W + s) - l.length * W = p - s := by omega
        rw [if_neg hps, if_neg h1, h2]
        unfold bitAt
        rw [Nat.div_eq_of_lt (show p - s < W by omega), Nat.mod_eq_of_lt (show p - s < W by omega)]
        simp [hm]
  · show ((w * 2 ^ s + st.2) / 2 ^ W).testBit p = _
    rw [Nat.testBit_div_two_pow, em, Nat.testBit_two_pow_mul_add _ hc, if_neg (by omega), bitAt_append hW]
    have e1 : (l ++ [w]).length * W = l.length * W + W := by
      rw [List.length_append, Nat.add_mul]; show _ + 1 * W = _; rw [Nat.one_mul]
    rw [e1, if_neg (by omega), show l.length * W + W + p - s - l.length * W = p + W - s by omega]
    unfold bitAt
    rw [Nat.div_eq_of_lt (show p + W - s < W by omega), Nat.mod_eq_of_lt (show p + W - s < W by omega)]
    rfl
theorem rinv_fold {sk s : Nat} (hW : 0 < W) (hs : s < W) : ∀ (l : List Nat) (m : List Nat) (st : List Nat × Nat), (∀ u ∈ l, u < 2 ^ W) → RInv W sk s m st → RInv W sk s (m ++ l) (l.foldl (rstep W s) st)
  | [], m, st, _, h => by rw [List.append_nil]; exact h
  | w :: r, m, st, hl, h => by
    have := rinv_fold hW hs r (m ++ [w]) (rstep W s st w) (fun u hu => hl u (List.mem_cons_of_mem _ hu)) (rinv_step hW hs h (hl w (List.mem_cons_self ..)))
    rw [List.append_assoc] at this
    exact this
/-- the set raised -/
theorem rep_raised {us : List Nat} {L : Nat} {P : Nat → Bool} (hW : 0 < W) (h : RepN W us L P) (more : Nat) :
    RepN W ((us.take (L - min (more / W) L)).foldl (rstep W (more % W)) (List.replicate (min (more / W) L) 0, 0)).1 L (fun n => decide (more ≤ n) && P (n - more)) := by
  have hs : more % W < W := Nat.mod_lt _ hW
  have r := rinv_fold (sk := min (more / W) L) hW hs (us.take (L - min (more / W) L)) [] _ (fun u hu => h.lt u (List.mem_of_mem_take hu)) (rinv_nil _ _)
  rw [List.nil_append] at r
  have hlen : min (more / W) L + (us.take (L - min (more / W) L)).length = L := by
    rw [List.length_take, h.len, Nat.min_eq_left (Nat.sub_le _ _)]
    exact Nat.add_sub_cancel' (Nat.min_le_right _ _)
  refine ⟨by rw [r.len, hlen], r.lt, fun q hq => ?_⟩
  rw [r.bit q (by rw [r.len, hlen]; exact hq)]
  have ed : more = W * (more / W) + more % W := (Nat.div_add_mod ..).symm
  by_cases hle : more / W ≤ L
  · rw [Nat.min_eq_left hle]
    have e1 : more / W * W + more % W = more := by rw [Nat.mul_comm]; omega
    rw [e1]
    by_cases hm : more ≤ q
    · have hlt : q - more < (L - more / W) * W := by
        rw [Nat.sub_mul]; omega
      have h2 := h.bit (q - more) (by omega)
      unfold bitAt at h2 ⊢
      rw [List.getD_eq_getElem?_getD, List.getElem?_take, if_pos (div_lt_of hW hlt), ← List.getD_eq_getElem?_getD, h2]
    · simp [hm]
  · have e0 : L - min (more / W) L = 0 := by rw [Nat.min_eq_right (Nat.le_of_not_le hle), Nat.sub_self]
    rw [e0, List.take_zero, bitAt_nil, Bool.and_false]
    have : ¬ more ≤ q := by
      have h3 : L * W ≤ W * (more / W) := by rw [Nat.mul_comm]; exact Nat.mul_le_mul_left _ (by omega)
      omega
    simp [this]
/-! up to so many coins -/
def upto (P : Nat → Bool) (v d n : Nat) : Bool := (List.range (d + 1)).any fun i => decide (i * v ≤ n) && P (n - i * v)
theorem upto_iff {P : Nat → Bool} {v d n : Nat} : upto P v d n = true ↔ ∃ i, i ≤ d ∧ i * v ≤ n ∧ P (n - i * v) = true := by
  unfold upto
  rw [List.any_eq_true]
  constructor
  · rintro ⟨i, hi, h⟩
    rw [Bool.and_eq_true, decide_eq_true_eq] at h
    have := List.mem_range.mp hi
    exact ⟨i, by omega, h.1, h.2⟩
  · rintro ⟨i, h1, h2, h3⟩
    exact ⟨i, List.mem_range.mpr (by omega), by rw [Bool.and_eq_true, decide_eq_true_eq]; exact ⟨h2, h3⟩⟩
theorem upto_zero {P : Nat → Bool} {v n : Nat} : upto P v 0 n = P n := by
  unfold upto
  simp
theorem upto_step {P : Nat → Bool} {v d st n : Nat} (h : st ≤ d + 1) : (upto P v d n || (decide (st * v ≤ n) && upto P v d (n - st * v))) = upto P v (d + st) n := by
  rw [Bool.eq_iff_iff, Bool.or_eq_true, Bool.and_eq_true, decide_eq_true_eq, upto_iff, upto_iff, upto_iff]
  constructor
  · rintro (⟨i, a, b, c⟩ | ⟨hs, i, a, b, c⟩)
    · exact ⟨i, by omega, b, c⟩
    · refine ⟨i + st, by omega, by rw [Nat.add_mul]; omega, ?_⟩
      rw [Nat.add_mul, show n - (i * v + st * v) = n - st * v - i * v by omega]; exact c
  · rintro ⟨i, a, b, c⟩
    by_cases hi : i ≤ d
    · exact .inl ⟨i, hi, b, c⟩
    · obtain ⟨j, e⟩ : ∃ j, i = j + st := ⟨i - st, by omega⟩
      subst e
      rw [Nat.add_mul] at b c
      exact .inr ⟨by omega, j, by omega, by omega, by rw [show n - st * v - j * v = n - (j * v + st * v) by omega]; exact c⟩
theorem canPay_upto {v k n : Nat} {r : Kp122.Coins} (hv : 1 ≤ v) : Kp122.canPay ((v, k) :: r) n = upto (Kp122.canPay r) v k n := by
  rw [Bool.eq_iff_iff, canPay_cons hv, upto_iff]
/-! the greatest -/
structure GInv (W : Nat) (P : Nat → Bool) (lim place word : Nat) : Prop where
  lt : word < 2 ^ W
  pl : place * W ≤ lim
  bit : ∀ b, b < W → word.testBit b = (P (place * W + b) && decide (place * W + b ≤ lim))
  up : ∀ m, (place + 1) * W ≤ m → m ≤ lim → P m = false
theorem ginv_start {us : List Nat} {P : Nat → Bool} {lim u : Nat} (hW : 0 < W) (h : RepN W us (lim / W + 1) P) (hu : us[lim / W]? = some u) : GInv W P lim (lim / W) (u % 2 ^ (lim % W + 1)) := by
  have ed := Nat.div_add_mod lim W
  have hm := Nat.mod_lt lim hW
  have e1 : lim / W * W = W * (lim / W) := Nat.mul_comm ..
  refine ⟨?_, by omega, fun b hb => ?_, fun m h1 h2 => ?_⟩
  · exact Nat.lt_of_lt_of_le (Nat.mod_lt _ (Nat.two_pow_pos _)) (Nat.pow_le_pow_right (by omega) (by omega))
  · rw [Nat.testBit_mod_two_pow]
    have h3 : lim / W * W + b < (lim / W + 1) * W := by rw [Nat.add_mul, Nat.one_mul]; omega
    obtain ⟨u', a1, _, a2⟩ := h.get hW h3
    have e2 : (lim / W * W + b) / W = lim / W := by
      rw [Nat.mul_comm, Nat.mul_add_div hW, Nat.div_eq_of_lt hb, Nat.add_zero]
    have e3 : (lim / W * W + b) % W = b := by
      rw [Nat.mul_comm, Nat.mul_add_mod, Nat.mod_eq_of_lt hb]
    rw [e2, hu] at a1
    rw [e3] at a2
    cases a1
    rw [a2, Bool.and_comm]
    congr 1
    exact decide_eq_decide.mpr (by omega)
  · rw [Nat.add_mul, Nat.one_mul] at h1
    omega
theorem ginv_down {us : List Nat} {P : Nat → Bool} {lim place u : Nat} (hW : 0 < W) (h : RepN W us (lim / W + 1) P) (g : GInv W P lim (place + 1) 0) (hu : us[place]? = some u) : GInv W P lim place u := by
  have hpl := g.pl
  have e4 : (place + 1) * W = place * W + W := by rw [Nat.add_mul, Nat.one_mul]
  have hL : lim < (lim / W + 1) * W := by
    have ed := Nat.div_add_mod lim W
    have hm := Nat.mod_lt lim hW
    rw [Nat.add_mul, Nat.one_mul, Nat.mul_comm (lim / W)]; omega
  have hpu : place < us.length := (List.getElem?_eq_some_iff.mp hu).1
  refine ⟨h.lt u (List.mem_of_getElem? hu), by omega, fun b hb => ?_, fun m h1 h2 => ?_⟩
  · obtain ⟨u', a1, _, a2⟩ := h.get hW (n := place * W + b) (by omega)
    have e2 : (place * W + b) / W = place := by
      rw [Nat.mul_comm, Nat.mul_add_div hW, Nat.div_eq_of_lt hb, Nat.add_zero]
    have e3 : (place * W + b) % W = b := by
      rw [Nat.mul_comm, Nat.mul_add_mod, Nat.mod_eq_of_lt hb]
    rw [e2, hu] at a1
    rw [e3] at a2
    cases a1
    rw [a2]
    have : place * W + b ≤ lim := by omega
    simp [this]
  · by_cases hm : (place + 1 + 1) * W ≤ m
    · exact g.up m hm h2
    · have e5 : (place + 1 + 1) * W = (place + 1) * W + W := by rw [Nat.add_mul (place + 1), Nat.one_mul]
      have hb := g.bit (m - (place + 1) * W) (by omega)
      rw [Nat.zero_testBit, show (place + 1) * W + (m - (place + 1) * W) = m by omega] at hb
      simpa [h2] using hb.symm
theorem ginv_end {P : Nat → Bool} {lim place word : Nat} (hW : 0 < W) (g : GInv W P lim place word) (hw : word ≠ 0) : place * W + word.log2 = most P lim := by
  have h1 : word.log2 < W := (Nat.log2_lt hw).mpr g.lt
  have hb := g.bit _ h1
  rw [Nat.testBit_log2 hw] at hb
  have hb' := hb.symm
  rw [Bool.and_eq_true, decide_eq_true_eq] at hb'
  refine (most_eq hb'.2 hb'.1 fun j hj hp => ?_).symm
  by_cases hjp : (place + 1) * W ≤ j
  · rw [g.up j hjp hj] at hp; cases hp
  · rw [Nat.add_mul, Nat.one_mul] at hjp
    by_cases hjl : j < place * W
    · omega
    · have h2 := g.bit (j - place * W) (by omega)
      rw [show place * W + (j - place * W) = j by omega, hp] at h2
      have h3 : word.testBit (j - place * W) = true := by simpa [hj] using h2
      have h4 := Nat.ge_two_pow_of_testBit h3
      have := (Nat.le_log2 hw).mpr h4
      omega
theorem ginv_zero {P : Nat → Bool} {lim : Nat} (hW : 0 < W) (g : GInv W P lim 0 0) (h0 : P 0 = true) : False := by
  have := g.bit 0 hW
  rw [Nat.zero_testBit] at this
  simp [h0] at this
end
end Hs
end
section
set_option Elab.async false
set_option linter.all false
namespace Hs
open Kp123 (Setup World Abs Ev at_)
/-! ### the account -/
theorem foldl_sum : ∀ (l : List Int) (z : Int), l.foldl (· + ·) z = z + l.sum
  | [], z => by simp
  | a :: l, z => by
    rw [List.foldl_cons, foldl_sum l, List.sum_cons]
    omega
theorem sum_map_sub (n : Nat) (f g : Nat → Int) : ((List.range n).map fun k => f k - g k).sum = ((List.range n).map f).sum - ((List.range n).map g).sum := by
  induction n with
  | zero => rfl
  | succ n ih =>
    rw [List.range_succ, List.map_append, List.map_append, List.map_append, List.sum_append, List.sum_append, List.sum_append, ih]
    simp
    omega
theorem sum_ite (n k : Nat) (z : Int) (h : k < n) : ((List.range n).map fun j => if j = k then z else 0).sum = z := by
  induction n with
  | zero => omega
  | succ n ih =>
    rw [List.range_succ, List.map_append, List.sum_append]
    by_cases e : k = n
    · subst e
      have : ((List.range k).map fun j => if j = k then z else 0).sum = 0 := by
        have e0 : ((List.range k).map fun j => if j = k then z else 0) = (List.range k).map fun _ => 0 := by
          refine List.map_congr_left fun j hj => ?_
          have := List.mem_range.mp hj
          exact if_neg (by omega)
        rw [e0]
        generalize List.range k = l
        induction l with
        | nil => rfl
        | cons a l ih => simp [ih]
      rw [this]
      simp
    · rw [ih (by omega)]
      have : ¬ n = k := fun q => e q.symm
      simp [this]
theorem sum_eq_of (n k : Nat) (f g : Nat → Int) (z : Int) (h : k < n) (e : ∀ j, j < n → f j = g j - (if j = k then z else 0)) : ((List.range n).map f).sum = ((List.range n).map g).sum - z := by
  have : (List.range n).map f = (List.range n).map fun j => g j - (if j = k then z else 0) := List.map_congr_left fun j hj => e j (List.mem_range.mp hj)
  rw [this, sum_map_sub, sum_ite n k z h]
theorem at_set {l : List Nat} {k j x : Nat} (h : k < l.length) : at_ (l.set k x) j = if j = k then x else at_ l j := by
  unfold at_
  rw [List.getD_eq_getElem?_getD, List.getD_eq_getElem?_getD]
  by_cases e : j = k
  · subst e
    rw [if_pos rfl, List.getElem?_set_self h]
    rfl
  · rw [if_neg e, List.getElem?_set_ne (fun q => e q.symm)]
structure SOk (S : Setup) : Prop where
  k1 : 1 ≤ S.kinds
  k8 : S.kinds ≤ 8
  s1 : 1 ≤ S.slots
  s8 : S.slots ≤ 8
  m1 : 1 ≤ S.most
  m2 : S.most ≤ 10000
  val : ∀ k, k < S.kinds → 1 ≤ at_ S.value k ∧ at_ S.value k ≤ 10000
  pri : ∀ k, k < S.slots → 1 ≤ at_ S.price k ∧ at_ S.price k ≤ 10000
structure Lens (S : Setup) : Prop where
  value : S.value.length = 8
  tube : S.tube.length = 8
  price : S.price.length = 8
  stock : S.stock.length = 8
  in0 : S.in0.length = 8
  out0 : S.out0.length = 8
  fell0 : S.fell0.length = 8
theorem take_all {l : List Nat} {n : Nat} {p : Nat → Bool} (h : (l.take n).all p = true) {k : Nat} (hk : k < n) (hl : n ≤ l.length) : p (at_ l k) = true := by
  rw [List.all_eq_true] at h
  have hk' : k < l.length := by omega
  have : at_ l k = l[k] := by unfold at_; rw [List.getD_eq_getElem?_getD, List.getElem?_eq_getElem hk']; rfl
  rw [this]
  refine h _ (List.mem_of_getElem? (i := k) ?_)
  rw [List.getElem?_take, if_pos hk, List.getElem?_eq_getElem hk']
theorem good_ok {S : Setup} (L : Lens S) (h : Kp123.goodSetup S = true) : SOk S := by
  unfold Kp123.goodSetup at h
  simp only [Bool.and_eq_true, decide_eq_true_eq] at h
  obtain ⟨⟨⟨⟨⟨⟨⟨⟨⟨⟨a1, a2⟩, a3⟩, a4⟩, a5⟩, a6⟩, a7⟩, a8⟩, a9⟩, a10⟩, a11⟩ := h
  refine ⟨a1, a2, a3, a4, a5, a6, fun k hk => ?_, fun k hk => ?_⟩
  · have := take_all a8 hk (by rw [L.value]; exact a2)
    simpa using this
  · have := take_all a10 hk (by rw [L.price]; exact a4)
    simpa using this
structure AOk (a : Abs) : Prop where
  s : SOk a.set
  c0 : 0 ≤ Kp123.credit a.set a.w
  c1 : Kp123.credit a.set a.w ≤ 20000
  h0 : ∀ k, k < a.set.kinds → 0 ≤ Kp123.atHand a.set a.w k
  h1 : ∀ k, k < a.set.kinds → Kp123.atHand a.set a.w k ≤ 400
  l0 : ∀ k, k < a.set.slots → 0 ≤ Kp123.left_ a.set a.w k
  lo : a.w.outs.length = 8
  lf : a.w.fells.length = 8
def handL (a : Abs) : List Int := (List.range a.set.kinds).map fun k => Kp123.atHand a.set a.w k
def leftL (a : Abs) : List Int := (List.range a.set.slots).map fun k => Kp123.left_ a.set a.w k
def stuckL (S : Setup) (st : List Nat) : List Bool := (List.range S.kinds).map fun k => st.contains k
def failedL (S : Setup) (fl : List Nat) : List Bool := (List.range S.slots).map fun k => fl.contains k
theorem map_set {α : Type} (n k : Nat) (f g : Nat → α) (x : α) (h : ∀ j, j < n → g j = if j = k then x else f j) : (List.range n).map g = ((List.range n).map f).set k x := by
  refine List.ext_getElem? fun i => ?_
  rw [List.getElem?_map, List.getElem?_set, List.getElem?_map, List.length_map, List.length_range]
  by_cases hi : i < n
  · rw [List.getElem?_range hi]
    by_cases e : k = i
    · subst e
      simp [hi, h k hi]
    · have e' : ¬ i = k := fun q => e q.symm
      rw [if_neg e]
      simp [h i hi, e']
  · have : (List.range n)[i]? = none := List.getElem?_eq_none_iff.mpr (by rw [List.length_range]; omega)
    rw [this]
    by_cases e : k = i
    · subst e
      simp [hi]
    · simp [e]
theorem get_rmap {α : Type} {n k : Nat} (f : Nat → α) (h : k < n) : ((List.range n).map f)[k]? = some (f k) := by
  rw [List.getElem?_map, List.getElem?_range h]; rfl
/-! a coin paid -/
section
variable {a : Abs} {k : Nat}
theorem credit_nat (o : AOk a) : (a.credit : Int) = Kp123.credit a.set a.w := by
  unfold Abs.credit
  have := o.c0
  omega
theorem credit_le (o : AOk a) : a.credit ≤ 20000 := by
  have := credit_nat o
  have := o.c1
  omega
theorem hand_pay (o : AOk a) (hk : k < a.set.kinds) (j : Nat) : Kp123.atHand a.set (a.ev (.pay k true)).w j = Kp123.atHand a.set a.w j - (if j = k then 1 else 0) := by
  have h8 : k < a.w.outs.length := by rw [o.lo]; have := o.s.k8; omega
  show Kp123.atHand a.set { a.w with outs := a.w.outs.set k (at_ a.w.outs k + 1) } j = _
  unfold Kp123.atHand Kp123.since
  show _ + _ - ((at_ (a.w.outs.set k (at_ a.w.outs k + 1)) j : Int) - _) = _
  rw [at_set h8]
  by_cases e : j = k
  · subst e
    simp
    omega
  · simp [e]
theorem credit_pay (o : AOk a) (hk : k < a.set.kinds) : Kp123.credit a.set (a.ev (.pay k true)).w = Kp123.credit a.set a.w - (at_ a.set.value k : Nat) := by
  have h8 : k < a.w.outs.length := by rw [o.lo]; have := o.s.k8; omega
  show Kp123.credit a.set { a.w with outs := a.w.outs.set k (at_ a.w.outs k + 1) } = _
  unfold Kp123.credit Kp123.worth
  rw [foldl_sum, foldl_sum, foldl_sum]
  have := sum_eq_of a.set.kinds k (fun j => Kp123.since (a.w.outs) a.set.out0 j * (at_ a.set.value j : Nat)) (fun j => Kp123.since (a.w.outs.set k (at_ a.w.outs k + 1)) a.set.out0 j * (at_ a.set.value j : Nat)) (at_ a.set.value k : Nat) hk fun j _ => by
    unfold Kp123.since
    rw [at_set h8]
    by_cases e : j = k
    · subst e
      rw [if_pos rfl, if_pos rfl, Int.sub_mul, Int.sub_mul, show ((at_ a.w.outs j + 1 : Nat) : Int) = (at_ a.w.outs j : Int) + 1 by omega, Int.add_mul, Int.one_mul]
      omega
    · rw [if_neg e, if_neg e]
      omega
  dsimp only
  rw [this]
  omega
theorem left_pay (b : Bool) (j : Nat) : Kp123.left_ a.set (a.ev (.pay k b)).w j = Kp123.left_ a.set a.w j := by
  cases b <;> rfl
theorem aok_pay (o : AOk a) (hk : k < a.set.kinds) (hh : 0 < Kp123.atHand a.set a.w k) (hv : at_ a.set.value k ≤ a.credit) : AOk (a.ev (.pay k true)) := by
  have hc := credit_nat o
  refine ⟨o.s, ?_, ?_, fun j hj => ?_, fun j hj => ?_, fun j hj => ?_, ?_, o.lf⟩
  · show 0 ≤ Kp123.credit a.set _
    rw [credit_pay o hk]; omega
  · show Kp123.credit a.set _ ≤ 20000
    rw [credit_pay o hk]; have := o.c1; omega
  · show 0 ≤ Kp123.atHand a.set _ j
    rw [hand_pay o hk]; have := o.h0 j hj; split
    · rename_i e; subst e; omega
    · omega
  · show Kp123.atHand a.set _ j ≤ 400
    rw [hand_pay o hk]; have := o.h1 j hj; split <;> omega
  · show 0 ≤ Kp123.left_ a.set _ j
    rw [left_pay]; exact o.l0 j hj
  · show (a.w.outs.set k _).length = 8
    rw [List.length_set]; exact o.lo
theorem aok_stick (o : AOk a) : AOk (a.ev (.pay k false)) := ⟨o.s, o.c0, o.c1, o.h0, o.h1, o.l0, o.lo, o.lf⟩
theorem aok_fail (o : AOk a) : AOk (a.ev (.drop k false)) := ⟨o.s, o.c0, o.c1, o.h0, o.h1, o.l0, o.lo, o.lf⟩
theorem handL_pay (o : AOk a) (hk : k < a.set.kinds) : handL (a.ev (.pay k true)) = (handL a).set k (Kp123.atHand a.set a.w k - 1) :=
  map_set _ _ _ _ _ fun j _ => by
    show Kp123.atHand a.set _ j = _
    rw [hand_pay o hk]
    by_cases e : j = k
    · subst e; simp
    · simp [e]
theorem contains_put (l : List Nat) (k j : Nat) : (Kp123.put l k).contains j = (l.contains j || j == k) := by
  unfold Kp123.put
  by_cases h : l.contains k = true
  · rw [if_pos h]
    by_cases e : j = k
    · subst e; rw [h]; rfl
    · have : (j == k) = false := by simpa using e
      rw [this, Bool.or_false]
  · rw [if_neg h, List.contains_eq_any_beq, List.any_append, ← List.contains_eq_any_beq]
    simp
theorem stuckL_put (S : Setup) (st : List Nat) (hk : k < S.kinds) : stuckL S (Kp123.put st k) = (stuckL S st).set k true :=
  map_set _ _ _ _ _ fun j _ => by
    rw [contains_put]
    by_cases e : j = k
    · subst e; simp
    · simp [e]
theorem failedL_put (S : Setup) (st : List Nat) (hk : k < S.slots) : failedL S (Kp123.put st k) = (failedL S st).set k true :=
  map_set _ _ _ _ _ fun j _ => by
    rw [contains_put]
    by_cases e : j = k
    · subst e; simp
    · simp [e]
/-! goods that fell -/
theorem left_drop (o : AOk a) (hk : k < a.set.slots) (j : Nat) : Kp123.left_ a.set (a.ev (.drop k true)).w j = Kp123.left_ a.set a.w j - (if j = k then 1 else 0) := by
  have h8 : k < a.w.fells.length := by rw [o.lf]; have := o.s.s8; omega
  show Kp123.left_ a.set { a.w with fells := a.w.fells.set k (at_ a.w.fells k + 1) } j = _
  unfold Kp123.left_ Kp123.since
  show _ - ((at_ (a.w.fells.set k (at_ a.w.fells k + 1)) j : Int) - _) = _
  rw [at_set h8]
  by_cases e : j = k
  · subst e
    simp
    omega
  · simp [e]
theorem credit_drop (o : AOk a) (hk : k < a.set.slots) : Kp123.credit a.set (a.ev (.drop k true)).w = Kp123.credit a.set a.w - (at_ a.set.price k : Nat) := by
  have h8 : k < a.w.fells.length := by rw [o.lf]; have := o.s.s8; omega
  show Kp123.credit a.set { a.w with fells := a.w.fells.set k (at_ a.w.fells k + 1) } = _
  unfold Kp123.credit Kp123.worth Kp123.prices
  rw [foldl_sum, foldl_sum, foldl_sum, foldl_sum]
  have := sum_eq_of a.set.slots k (fun j => Kp123.since (a.w.fells) a.set.fell0 j * (at_ a.set.price j : Nat)) (fun j => Kp123.since (a.w.fells.set k (at_ a.w.fells k + 1)) a.set.fell0 j * (at_ a.set.price j : Nat)) (at_ a.set.price k : Nat) hk fun j _ => by
    unfold Kp123.since
    rw [at_set h8]
    by_cases e : j = k
    · subst e
      rw [if_pos rfl, if_pos rfl, Int.sub_mul, Int.sub_mul, show ((at_ a.w.fells j + 1 : Nat) : Int) = (at_ a.w.fells j : Int) + 1 by omega, Int.add_mul, Int.one_mul]
      omega
    · rw [if_neg e, if_neg e]
      omega
  dsimp only
  rw [this]
  omega
theorem aok_drop (o : AOk a) (hk : k < a.set.slots) (hl : 0 < Kp123.left_ a.set a.w k) (hv : at_ a.set.price k ≤ a.credit) : AOk (a.ev (.drop k true)) := by
  have hc := credit_nat o
  refine ⟨o.s, ?_, ?_, o.h0, o.h1, fun j hj => ?_, o.lo, ?_⟩
  · show 0 ≤ Kp123.credit a.set _
    rw [credit_drop o hk]; omega
  · show Kp123.credit a.set _ ≤ 20000
    rw [credit_drop o hk]; have := o.c1; omega
  · show 0 ≤ Kp123.left_ a.set _ j
    rw [left_drop o hk]; have := o.l0 j hj; split
    · rename_i e; subst e; omega
    · omega
  · show (a.w.fells.set k _).length = 8
    rw [List.length_set]; exact o.lf
theorem leftL_drop (o : AOk a) (hk : k < a.set.slots) : leftL (a.ev (.drop k true)) = (leftL a).set k (Kp123.left_ a.set a.w k - 1) :=
  map_set _ _ _ _ _ fun j _ => by
    show Kp123.left_ a.set _ j = _
    rw [left_drop o hk]
    by_cases e : j = k
    · subst e; simp
    · simp [e]
/-! coins -/
theorem coins_pos (o : AOk a) : CPos (Kp123.coins a) := fun x hx => by
  obtain ⟨j, hj, e⟩ := List.mem_map.mp hx
  rw [← e]
  exact (o.s.val j (List.mem_range.mp hj)).1
theorem coins_len : (Kp123.coins a).length = a.set.kinds := by
  unfold Kp123.coins
  rw [List.length_map, List.length_range]
theorem coins_get (hk : k < a.set.kinds) : (Kp123.coins a)[k]? = some (at_ a.set.value k, if a.stuck.contains k then 0 else (Kp123.atHand a.set a.w k).toNat) := get_rmap _ hk
theorem dec_get : ∀ (c : Kp122.Coins) (k i : Nat), (dec c k)[i]? = if i = k then (c[i]?).map (fun x => (x.1, x.2 - 1)) else c[i]?
  | [], k, i => by
    unfold dec
    simp
  | (v, m) :: r, 0, 0 => rfl
  | (v, m) :: r, 0, i + 1 => by
    show r[i]? = _
    rw [if_neg (by omega)]
    rfl
  | x :: r, k + 1, 0 => by
    show some x = _
    rw [if_neg (by omega)]
    rfl
  | x :: r, k + 1, i + 1 => by
    show (dec r k)[i]? = _
    rw [dec_get r k i]
    by_cases e : i = k
    · rw [if_pos e, if_pos (by omega)]; rfl
    · rw [if_neg e, if_neg (by omega)]; rfl
theorem coins_pay (o : AOk a) (hk : k < a.set.kinds) (hs : a.stuck.contains k = false) : Kp123.coins (a.ev (.pay k true)) = dec (Kp123.coins a) k := by
  refine List.ext_getElem? fun i => ?_
  rw [dec_get]
  by_cases hi : i < a.set.kinds
  · rw [coins_get hi, coins_get (a := a.ev (.pay k true)) hi]
    show some (at_ a.set.value i, if a.stuck.contains i = true then 0 else (Kp123.atHand a.set _ i).toNat) = _
    rw [hand_pay o hk]
    by_cases e : i = k
    · subst e
      rw [hs, if_pos rfl, if_pos rfl]
      simp
    · rw [if_neg e, if_neg e]
      simp
  · have h1 : (Kp123.coins (a.ev (.pay k true)))[i]? = none := List.getElem?_eq_none_iff.mpr (by rw [coins_len]; exact Nat.le_of_not_lt hi)
    have h2 : (Kp123.coins a)[i]? = none := List.getElem?_eq_none_iff.mpr (by rw [coins_len]; exact Nat.le_of_not_lt hi)
    rw [h1, h2]
    simp
theorem great_most : Kp123.greatest a = most (Kp122.canPay (Kp123.coins a)) a.credit := greatest_most _ _
theorem great_le : Kp123.greatest a ≤ a.credit := by rw [great_most]; exact most_le _ _
theorem great_pay (o : AOk a) : Kp122.canPay (Kp123.coins a) (Kp123.greatest a) = true := by
  rw [great_most]
  exact most_ok _ _ 0 (Nat.zero_le _) (canPay_zero _ (coins_pos o))
theorem great_ge {n : Nat} (h : n ≤ a.credit) (hp : Kp122.canPay (Kp123.coins a) n = true) : n ≤ Kp123.greatest a := by
  rw [great_most]
  exact most_ge _ _ n h hp
theorem great_after (o : AOk a) (hk : k < a.set.kinds) (hs : a.stuck.contains k = false) (hh : 0 < Kp123.atHand a.set a.w k) (hv : at_ a.set.value k ≤ Kp123.greatest a) :
    Kp122.canPay (dec (Kp123.coins a) k) (Kp123.greatest a - at_ a.set.value k) = true ↔ Kp123.greatest (a.ev (.pay k true)) + at_ a.set.value k = Kp123.greatest a := by
  have hv' := Nat.le_trans hv great_le
  have o' := aok_pay o hk hh hv'
  have ec : ((a.ev (.pay k true)).credit : Int) = Kp123.credit a.set a.w - (at_ a.set.value k : Nat) := by
    rw [credit_nat o']
    show Kp123.credit a.set (a.ev (.pay k true)).w = _
    exact credit_pay o hk
  have ec' : (a.ev (.pay k true)).credit = a.credit - at_ a.set.value k := by
    have := credit_nat o
    omega
  have hget : (Kp123.coins a)[k]? = some (at_ a.set.value k, (Kp123.atHand a.set a.w k).toNat) := by rw [coins_get hk, hs]; simp
  have up : Kp123.greatest (a.ev (.pay k true)) + at_ a.set.value k ≤ Kp123.greatest a := by
    have h1 := great_pay o'
    rw [coins_pay o hk hs] at h1
    have h2 := pay_back (coins_pos o) hget (by omega) h1
    refine great_ge ?_ h2
    have := great_le (a := a.ev (.pay k true))
    omega
  constructor
  · intro h
    have : Kp123.greatest a - at_ a.set.value k ≤ Kp123.greatest (a.ev (.pay k true)) := by
      refine great_ge ?_ (by rw [coins_pay o hk hs]; exact h)
      have := great_le (a := a)
      omega
    omega
  · intro h
    have h1 := great_pay o'
    rw [coins_pay o hk hs] at h1
    rw [show Kp123.greatest a - at_ a.set.value k = Kp123.greatest (a.ev (.pay k true)) by omega]
    exact h1
theorem mayPay_iff (o : AOk a) : Kp123.mayPay a k = true ↔ k < a.set.kinds ∧ a.stuck.contains k = false ∧ 0 < Kp123.atHand a.set a.w k ∧ at_ a.set.value k ≤ Kp123.greatest a ∧ Kp122.canPay (dec (Kp123.coins a) k) (Kp123.greatest a - at_ a.set.value k) = true := by
  unfold Kp123.mayPay
  simp only [Bool.and_eq_true, decide_eq_true_eq, Bool.not_eq_true', beq_iff_eq]
  constructor
  · rintro ⟨⟨⟨⟨h1, h2⟩, h3⟩, h4⟩, h5⟩
    exact ⟨h1, h2, h3, h4, (great_after o h1 h2 h3 h4).mpr h5⟩
  · rintro ⟨h1, h2, h3, h4, h5⟩
    exact ⟨⟨⟨⟨h1, h2⟩, h3⟩, h4⟩, (great_after o h1 h2 h3 h4).mp h5⟩
def planA (a : Abs) : List Nat := plan (Kp123.coins a) (Kp123.greatest a)
/-- the plan's first coin is what the words ask for -/
theorem plan_asks (o : AOk a) {i : Nat} {rest : List Nat} (h : planA a = zeros k ++ (i + 1) :: rest) :
    k < a.set.kinds ∧ a.stuck.contains k = false ∧ 0 < Kp123.atHand a.set a.w k ∧ at_ a.set.value k ≤ a.credit ∧ Kp123.greatest a ≠ 0 ∧ (List.range a.set.kinds).find? (Kp123.mayPay a) = some k ∧ planA (a.ev (.pay k true)) = zeros k ++ i :: rest := by
  obtain ⟨v, m, hg, hm, hv, hc, hp⟩ := plan_pay (coins_pos o) (great_pay o) h
  have hk : k < a.set.kinds := by rw [← coins_len (a := a)]; exact (List.getElem?_eq_some_iff.mp hg).1
  rw [coins_get hk] at hg
  obtain ⟨e1, e2⟩ := Prod.mk.inj (Option.some.inj hg)
  have hs : a.stuck.contains k = false := by
    cases q : a.stuck.contains k with
    | false => rfl
    | true => rw [q] at e2; simp at e2; omega
  rw [hs] at e2
  have hh : 0 < Kp123.atHand a.set a.w k := by
    have : (Kp123.atHand a.set a.w k).toNat = m := by simpa using e2
    omega
  subst e1
  have hv1 := (o.s.val k hk).1
  have hmp : Kp123.mayPay a k = true := (mayPay_iff o).mpr ⟨hk, hs, hh, hv, hc⟩
  refine ⟨hk, hs, hh, Nat.le_trans hv great_le, by omega, ?_, ?_⟩
  · rw [List.find?_eq_some_iff_append]
    refine ⟨hmp, (List.range k), (List.range' (k + 1) (a.set.kinds - k - 1)), ?_, fun j hj => ?_⟩
    · rw [List.range_eq_range', List.range_eq_range']
      have e : a.set.kinds = k + (1 + (a.set.kinds - k - 1)) := by omega
      conv => lhs; rw [e, ← List.range'_append_1]
      rw [Nat.zero_add, ← List.range'_append_1]
      rfl
    · have hj' := List.mem_range.mp hj
      cases q : Kp123.mayPay a j with
      | false => rfl
      | true =>
        obtain ⟨q1, q2, q3, q4, q5⟩ := (mayPay_iff o).mp q
        have hgj := coins_get (a := a) q1
        rw [q2] at hgj
        exact (plan_first (coins_pos o) (great_pay o) h hj' hgj (by simp; omega) q4 q5).elim
  · unfold planA
    have := (great_after o hk hs hh hv).mp hc
    rw [coins_pay o hk hs, show Kp123.greatest (a.ev (.pay k true)) = Kp123.greatest a - at_ a.set.value k by omega]
    exact hp
theorem plan_zero (o : AOk a) (h : planA a = zeros a.set.kinds) : Kp123.greatest a = 0 := by
  refine plan_none (coins_pos o) (great_pay o) ?_
  rw [coins_len]
  exact h
theorem planA_len : (planA a).length = a.set.kinds := by
  unfold planA
  rw [plan_len, coins_len]
end
/-! ### paying back, without fuel -/
inductive Goes : Abs → List Int → Abs → List (List Int) → List Int → Prop
  | done {a t} : Kp123.greatest a = 0 → Goes a t a [] t
  | step {a b r k a' asks t'} : Kp123.greatest a ≠ 0 → (List.range a.set.kinds).find? (Kp123.mayPay a) = some k → Goes (a.ev (.pay k (b == 1))) r a' asks t' → Goes a (b :: r) a' ([5, (k : Int)] :: asks) t'
def mu (a : Abs) : Nat := ((List.range a.set.kinds).map fun k => if a.stuck.contains k then 0 else (Kp123.atHand a.set a.w k).toNat + 1).sum
theorem sum_lt_of (n k : Nat) (f g : Nat → Nat) (h : k < n) (e : ∀ j, j < n → f j ≤ g j) (e2 : f k < g k) : ((List.range n).map f).sum < ((List.range n).map g).sum := by
  induction n with
  | zero => omega
  | succ n ih =>
    rw [List.range_succ, List.map_append, List.map_append, List.sum_append, List.sum_append]
    simp only [List.map_cons, List.map_nil, List.sum_cons, List.sum_nil]
    by_cases q : k = n
    · subst q
      have : ((List.range k).map f).sum ≤ ((List.range k).map g).sum := by
        clear ih e2 h
        induction k with
        | zero => exact Nat.le_refl _
        | succ k ih =>
          rw [List.range_succ, List.map_append, List.map_append, List.sum_append, List.sum_append]
          simp only [List.map_cons, List.map_nil, List.sum_cons, List.sum_nil]
          have := ih fun j hj => e j (by omega)
          have := e k (by omega)
          omega
      omega
    · have := ih (by omega) (fun j hj => e j (by omega))
      have := e n (by omega)
      omega
theorem mu_pay {a : Abs} {k : Nat} (b : Bool) (o : AOk a) (h : Kp123.mayPay a k = true) : mu (a.ev (.pay k b)) < mu a := by
  obtain ⟨h1, h2, h3, h4, _⟩ := (mayPay_iff o).mp h
  unfold mu
  refine sum_lt_of a.set.kinds k _ _ h1 (fun j hj => ?_) ?_
  · cases b with
    | true =>
      show (if a.stuck.contains j = true then 0 else (Kp123.atHand a.set _ j).toNat + 1) ≤ _
      rw [hand_pay o h1]
      split
      · exact Nat.le_refl _
      · split <;> omega
    | false =>
      show (if (Kp123.put a.stuck k).contains j = true then 0 else (Kp123.atHand a.set a.w j).toNat + 1) ≤ _
      rw [contains_put]
      cases a.stuck.contains j <;> cases (j == k) <;> simp
  · cases b with
    | true =>
      show (if a.stuck.contains k = true then 0 else (Kp123.atHand a.set _ k).toNat + 1) < _
      rw [hand_pay o h1, h2]
      simp
      omega
    | false =>
      show (if (Kp123.put a.stuck k).contains k = true then 0 else (Kp123.atHand a.set a.w k).toNat + 1) < _
      rw [contains_put, h2]
      simp
theorem find_may {a : Abs} {k : Nat} (h : (List.range a.set.kinds).find? (Kp123.mayPay a) = some k) : Kp123.mayPay a k = true := List.find?_some h
theorem aok_ev {a : Abs} {k : Nat} (b : Bool) (o : AOk a) (h : Kp123.mayPay a k = true) : AOk (a.ev (.pay k b)) := by
  obtain ⟨h1, h2, h3, h4, _⟩ := (mayPay_iff o).mp h
  cases b with
  | true => exact aok_pay o h1 h3 (Nat.le_trans h4 great_le)
  | false => exact aok_stick o
theorem goes_of : ∀ (f : Nat) (a : Abs) (t : List Int) (t' : List Int), AOk a → mu a < f → (Kp123Neutral.pays f a t).2.2 = some t' → Goes a t (Kp123Neutral.pays f a t).1 (Kp123Neutral.pays f a t).2.1 t'
  | 0, a, t, t', o, h, _ => by omega
  | f + 1, a, t, t', o, h, e => by
    unfold Kp123Neutral.pays at e ⊢
    by_cases hg : Kp123.greatest a = 0
    · rw [if_pos hg] at e ⊢
      cases e
      exact .done hg
    · rw [if_neg hg] at e ⊢
      cases hf : (List.range a.set.kinds).find? (Kp123.mayPay a) with
      | none =>
        exfalso
        rcases split_zeros (planA a) with z | ⟨k, i, rest, z⟩
        · rw [planA_len] at z; exact hg (plan_zero o z)
        · have := (plan_asks o z).2.2.2.2.2.1
          rw [this] at hf; cases hf
      | some k =>
        rw [hf] at e
        cases t with
        | nil => cases e
        | cons b r =>
          have hm := find_may hf
          have := goes_of f (a.ev (.pay k (b == 1))) r t' (aok_ev _ o hm) (by have := mu_pay (b == 1) o hm; omega) e
          exact .step hg hf this
theorem mu_le {a : Abs} (o : AOk a) : mu a < Kp123Neutral.FUEL := by
  have hle : ∀ n, n ≤ a.set.kinds → ((List.range n).map fun k => if a.stuck.contains k then 0 else (Kp123.atHand a.set a.w k).toNat + 1).sum ≤ n * 401 := by
    intro n
    induction n with
    | zero => intro _; exact Nat.le_refl _
    | succ n ih =>
      intro hn
      rw [List.range_succ, List.map_append, List.sum_append]
      simp only [List.map_cons, List.map_nil, List.sum_cons, List.sum_nil]
      have h1 := ih (by omega)
      have h2 := o.h1 n (by omega)
      have h3 : (if a.stuck.contains n = true then 0 else (Kp123.atHand a.set a.w n).toNat + 1) + 0 ≤ 401 := by
        clear h1 ih
        split <;> omega
      rw [Nat.add_mul, Nat.one_mul]
      exact Nat.add_le_add h1 h3
  have h8 := o.s.k8
  have this := hle _ (Nat.le_refl _)
  have e : Kp123Neutral.FUEL = 20000 := by unfold Kp123Neutral.FUEL; exact Eq.refl 20000
  rw [e]
  refine Nat.lt_of_le_of_lt (this : mu a ≤ _) ?_
  omega
end Hs
end
section
set_option Elab.async false
set_option linter.all false
namespace Hs
open Kp123 (Setup World Abs Ev at_)
open Kp123Neutral (Box S What reads)
/-! ### lists beside one another -/
def cI (l : List Nat) : List Int := l.map fun (n : Nat) => (n : Int)
theorem zw {α β γ : Type} {f : α → β → γ} {g : Nat → γ} {l : List α} {m : List β} {n : Nat} (hl : l.length = n) (hm : n ≤ m.length) (h : ∀ i x y, i < n → l[i]? = some x → m[i]? = some y → f x y = g i) : List.zipWith f l m = (List.range n).map g := by
  refine List.ext_getElem? fun i => ?_
  rw [List.getElem?_zipWith, List.getElem?_map]
  by_cases hi : i < n
  · have h1 : l[i]? = some l[i] := List.getElem?_eq_getElem (by omega)
    have h2 : m[i]? = some m[i] := List.getElem?_eq_getElem (by omega)
    rw [h1, h2, List.getElem?_range hi]
    exact congrArg some (h i _ _ hi h1 h2)
  · have h1 : l[i]? = none := List.getElem?_eq_none_iff.mpr (by omega)
    have h2 : (List.range n)[i]? = none := List.getElem?_eq_none_iff.mpr (by rw [List.length_range]; omega)
    rw [h1, h2]
    rfl
theorem zw' {α β γ : Type} {f : α → β → γ} {g : Nat → γ} {l : List α} {m : List β} {n : Nat} (hl : n ≤ l.length) (hm : m.length = n) (h : ∀ i x y, i < n → l[i]? = some x → m[i]? = some y → f x y = g i) : List.zipWith f l m = (List.range n).map g := by
  refine List.ext_getElem? fun i => ?_
  rw [List.getElem?_zipWith, List.getElem?_map]
  by_cases hi : i < n
  · have h1 : l[i]? = some l[i] := List.getElem?_eq_getElem (by omega)
    have h2 : m[i]? = some m[i] := List.getElem?_eq_getElem (by omega)
    rw [h1, h2, List.getElem?_range hi]
    exact congrArg some (h i _ _ hi h1 h2)
  · have h1 : m[i]? = none := List.getElem?_eq_none_iff.mpr (by omega)
    have h2 : (List.range n)[i]? = none := List.getElem?_eq_none_iff.mpr (by rw [List.length_range]; omega)
    rw [h1, h2]
    cases l[i]? <;> rfl
def zipW3 {α β γ δ : Type} (f : α → β → γ → δ) : List α → List β → List γ → List δ
  | a :: as, b :: bs, c :: cs => f a b c :: zipW3 f as bs cs
  | _, _, _ => []
theorem zipW3_len {α β γ δ : Type} (f : α → β → γ → δ) : ∀ (as : List α) (bs : List β) (cs : List γ), (zipW3 f as bs cs).length = min as.length (min bs.length cs.length)
  | a :: as, b :: bs, c :: cs => by
    show (zipW3 f as bs cs).length + 1 = _
    rw [zipW3_len f as bs cs]
    simp only [List.length_cons]
    omega
  | [], _, _ => by simp [zipW3]
  | _ :: _, [], _ => by simp [zipW3]
  | _ :: _, _ :: _, [] => by simp [zipW3]
theorem zipW3_get {α β γ δ : Type} (f : α → β → γ → δ) : ∀ {as : List α} {bs : List β} {cs : List γ} {i : Nat} {a : α} {b : β} {c : γ}, as[i]? = some a → bs[i]? = some b → cs[i]? = some c → (zipW3 f as bs cs)[i]? = some (f a b c)
  | x :: as, y :: bs, z :: cs, 0, a, b, c, h1, h2, h3 => by
    cases h1; cases h2; cases h3; rfl
  | x :: as, y :: bs, z :: cs, i + 1, a, b, c, h1, h2, h3 => zipW3_get (as := as) (bs := bs) (cs := cs) (i := i) f h1 h2 h3
  | [], _, _, _, _, _, _, h, _, _ => by simp at h
  | _ :: _, [], _, _, _, _, _, _, h, _ => by simp at h
  | _ :: _, _ :: _, [], _, _, _, _, _, _, h => by simp at h
theorem zipW3_map {α β γ δ : Type} {f : α → β → γ → δ} {g : Nat → δ} {p : Nat → β} {q : Nat → γ} {l : List α} {n : Nat} (hl : n ≤ l.length) (h : ∀ i x, i < n → l[i]? = some x → f x (p i) (q i) = g i) : zipW3 f l ((List.range n).map p) ((List.range n).map q) = (List.range n).map g := by
  refine List.ext_getElem? fun i => ?_
  by_cases hi : i < n
  · have h1 : l[i]? = some l[i] := List.getElem?_eq_getElem (by omega)
    rw [zipW3_get f h1 (get_rmap p hi) (get_rmap q hi), get_rmap g hi]
    exact congrArg some (h i _ hi h1)
  · have h1 : (zipW3 f l ((List.range n).map p) ((List.range n).map q))[i]? = none := List.getElem?_eq_none_iff.mpr (by
      rw [zipW3_len, List.length_map, List.length_map, List.length_range]; omega)
    have h2 : ((List.range n).map g)[i]? = none := List.getElem?_eq_none_iff.mpr (by rw [List.length_map, List.length_range]; omega)
    rw [h1, h2]
theorem zipW3_mapV {α β γ δ α' β' γ' δ' : Type} {f : α → β → γ → δ} {f' : α' → β' → γ' → δ'} {u : α' → α} {v : β' → β} {w : γ' → γ} {z : δ' → δ} (h : ∀ a b c, f (u a) (v b) (w c) = z (f' a b c)) : ∀ (as : List α') (bs : List β') (cs : List γ'), zipW3 f (as.map u) (bs.map v) (cs.map w) = (zipW3 f' as bs cs).map z
  | a :: as, b :: bs, c :: cs => by
    show f (u a) (v b) (w c) :: zipW3 f (as.map u) (bs.map v) (cs.map w) = z (f' a b c) :: (zipW3 f' as bs cs).map z
    rw [h, zipW3_mapV h as bs cs]
  | [], _, _ => rfl
  | _ :: _, [], _ => rfl
  | _ :: _, _ :: _, [] => rfl
theorem cI_get {l : List Nat} {i : Nat} {y : Int} (h : (cI l)[i]? = some y) : y = (at_ l i : Int) := by
  unfold cI at h
  rw [List.getElem?_map] at h
  cases e : l[i]? with
  | none => rw [e] at h; cases h
  | some x =>
    rw [e] at h
    have hx : (x : Int) = y := Option.some.inj h
    unfold at_
    rw [List.getD_eq_getElem?_getD, e]
    exact hx.symm
/-! ### what the counters tell -/
structure Told (S : Setup) (t : List Int) : Prop where
  len : S.kinds + S.kinds + S.slots ≤ t.length
  nat : ∀ z ∈ t.take (S.kinds + S.kinds + S.slots), 0 ≤ z
theorem pad_at (l : List Int) (k : Nat) (hk : k < 8) {z : Int} (h : l[k]? = some z) (h0 : 0 ≤ z) : (at_ (Kp123Neutral.pad (Kp123Neutral.nats l)) k : Int) = z := by
  unfold Kp123Neutral.pad at_
  rw [List.getD_eq_getElem?_getD, get_rmap _ hk]
  show (((Kp123Neutral.nats l).getD k 0 : Nat) : Int) = z
  unfold Kp123Neutral.nats
  rw [List.getD_eq_getElem?_getD, List.getElem?_map, h]
  show (z.toNat : Int) = z
  omega
section
variable {s : Setup} {t : List Int}
theorem told_at (T : Told s t) {i : Nat} (hi : i < s.kinds + s.kinds + s.slots) : ∃ z, t[i]? = some z ∧ 0 ≤ z := by
  have hl : i < t.length := Nat.lt_of_lt_of_le hi T.len
  refine ⟨t[i], List.getElem?_eq_getElem hl, T.nat _ (List.mem_of_getElem? (i := i) ?_)⟩
  rw [List.getElem?_take, if_pos hi, List.getElem?_eq_getElem hl]
def cin (s : Setup) (t : List Int) : List Int := t.take s.kinds
def cout (s : Setup) (t : List Int) : List Int := (t.drop s.kinds).take s.kinds
def cfell (s : Setup) (t : List Int) : List Int := (t.drop (s.kinds + s.kinds)).take s.slots
theorem cin_len (T : Told s t) : (cin s t).length = s.kinds := by
  have := T.len
  unfold cin
  rw [List.length_take]
  omega
theorem cout_len (T : Told s t) : (cout s t).length = s.kinds := by
  have := T.len
  unfold cout
  rw [List.length_take, List.length_drop]
  omega
theorem cfell_len (T : Told s t) : (cfell s t).length = s.slots := by
  have := T.len
  unfold cfell
  rw [List.length_take, List.length_drop]
  omega
theorem came_eq (o : SOk s) (L : Lens s) (T : Told s t) : List.zipWith (fun x y => x - y) (cin s t) (cI s.in0) = (List.range s.kinds).map (Kp123.since (reads s t).1.ins s.in0) := by
  refine zw (cin_len T) (by unfold cI; rw [List.length_map, L.in0]; exact o.k8) fun i x y hi hx hy => ?_
  have hx' : t[i]? = some x := by unfold cin at hx; rw [List.getElem?_take, if_pos hi] at hx; exact hx
  obtain ⟨z, hz, h0⟩ := told_at T (i := i) (by omega)
  rw [hx'] at hz
  cases hz
  unfold Kp123.since
  rw [cI_get hy, show (at_ (reads s t).1.ins i : Int) = x from pad_at _ i (by have := o.k8; omega) hx h0]
theorem paid_eq (o : SOk s) (L : Lens s) (T : Told s t) : List.zipWith (fun x y => x - y) (cout s t) (cI s.out0) = (List.range s.kinds).map (Kp123.since (reads s t).1.outs s.out0) := by
  refine zw (cout_len T) (by unfold cI; rw [List.length_map, L.out0]; exact o.k8) fun i x y hi hx hy => ?_
  have hx' : t[s.kinds + i]? = some x := by unfold cout at hx; rw [List.getElem?_take, if_pos hi, List.getElem?_drop] at hx; exact hx
  obtain ⟨z, hz, h0⟩ := told_at T (i := s.kinds + i) (by omega)
  rw [hx'] at hz
  cases hz
  unfold Kp123.since
  rw [cI_get hy, show (at_ (reads s t).1.outs i : Int) = x from pad_at _ i (by have := o.k8; omega) hx h0]
theorem fell_eq (o : SOk s) (L : Lens s) (T : Told s t) : List.zipWith (fun x y => x - y) (cfell s t) (cI s.fell0) = (List.range s.slots).map (Kp123.since (reads s t).1.fells s.fell0) := by
  refine zw (cfell_len T) (by unfold cI; rw [List.length_map, L.fell0]; exact o.s8) fun i x y hi hx hy => ?_
  have hx' : t[s.kinds + s.kinds + i]? = some x := by unfold cfell at hx; rw [List.getElem?_take, if_pos hi, List.getElem?_drop] at hx; exact hx
  obtain ⟨z, hz, h0⟩ := told_at T (i := s.kinds + s.kinds + i) (by omega)
  rw [hx'] at hz
  cases hz
  unfold Kp123.since
  rw [cI_get hy, show (at_ (reads s t).1.fells i : Int) = x from pad_at _ i (by have := o.s8; omega) hx h0]
theorem hand_eq (o : SOk s) (L : Lens s) {w : World} : zipW3 (fun x y z => x + y - z) (cI s.tube) ((List.range s.kinds).map (Kp123.since w.ins s.in0)) ((List.range s.kinds).map (Kp123.since w.outs s.out0)) = (List.range s.kinds).map (Kp123.atHand s w) :=
  zipW3_map (by unfold cI; rw [List.length_map, L.tube]; exact o.k8) fun i x hi hx => by
    rw [cI_get hx]
    rfl
theorem left_eq (o : SOk s) (L : Lens s) {w : World} : List.zipWith (fun x y => x - y) (cI s.stock) ((List.range s.slots).map (Kp123.since w.fells s.fell0)) = (List.range s.slots).map (Kp123.left_ s w) :=
  zw' (by unfold cI; rw [List.length_map, L.stock]; exact o.s8) (by rw [List.length_map, List.length_range]) fun i x y hi hx hy => by
    rw [get_rmap _ hi] at hy
    cases hy
    rw [cI_get hx]
    rfl
theorem worth_eq (o : SOk s) (L : Lens s) (f : Nat → Int) : (List.zipWith (fun x y => x * y) (cI s.value) ((List.range s.kinds).map f)).sum = Kp123.worth s f := by
  have : List.zipWith (fun x y => x * y) (cI s.value) ((List.range s.kinds).map f) = (List.range s.kinds).map fun k => f k * (at_ s.value k : Nat) :=
    zw' (by unfold cI; rw [List.length_map, L.value]; exact o.k8) (by rw [List.length_map, List.length_range]) fun i x y hi hx hy => by
      rw [get_rmap _ hi] at hy
      cases hy
      rw [cI_get hx, Int.mul_comm]
  rw [this]
  unfold Kp123.worth
  rw [foldl_sum]
  omega
theorem prices_eq (o : SOk s) (L : Lens s) (f : Nat → Int) : (List.zipWith (fun x y => x * y) (cI s.price) ((List.range s.slots).map f)).sum = Kp123.prices s f := by
  have : List.zipWith (fun x y => x * y) (cI s.price) ((List.range s.slots).map f) = (List.range s.slots).map fun k => f k * (at_ s.price k : Nat) :=
    zw' (by unfold cI; rw [List.length_map, L.price]; exact o.s8) (by rw [List.length_map, List.length_range]) fun i x y hi hx hy => by
      rw [get_rmap _ hi] at hy
      cases hy
      rw [cI_get hx, Int.mul_comm]
  rw [this]
  unfold Kp123.prices
  rw [foldl_sum]
  omega
theorem aok_start {b : Box} {t : List Int} (o : SOk b.set) (h : Kp123Neutral.sound b (reads b.set t).1 = true) : AOk (Kp123Neutral.whole b (reads b.set t).1) := by
  unfold Kp123Neutral.sound at h
  simp only [Bool.and_eq_true, decide_eq_true_eq, List.all_eq_true, List.mem_range] at h
  obtain ⟨h1, h2, h3, h4⟩ := h
  exact ⟨o, h1, h2, fun k hk => (h3 k hk).2.2.1, fun k hk => (h3 k hk).2.2.2, fun k hk => (h4 k hk).2, by
    show (Kp123Neutral.pad _).length = 8
    unfold Kp123Neutral.pad
    rw [List.length_map, List.length_range], by
    show (Kp123Neutral.pad _).length = 8
    unfold Kp123Neutral.pad
    rw [List.length_map, List.length_range]⟩
end
/-! ### bits -/
def bitsN (p : Nat → Bool) (n : Nat) : Nat := (List.range n).foldl (fun m s => if p s = true then m + 2 ^ s else m) 0
theorem bitsN_succ (p : Nat → Bool) (n : Nat) : bitsN p (n + 1) = if p n = true then bitsN p n + 2 ^ n else bitsN p n := by
  unfold bitsN
  rw [List.range_succ, List.foldl_append]
  rfl
theorem lamps_bits (a : Abs) : Kp123.lamps a = bitsN (Kp123.canBuy a) a.set.slots := rfl
theorem mouth_bits (a : Abs) : Kp123.mouth a = if a.credit < a.set.most then bitsN (fun k => !a.stuck.contains k) a.set.kinds else 0 := by
  unfold Kp123.mouth bitsN
  split
  · congr 1
    funext m k
    show (if a.stuck.contains k = true then m else m + 2 ^ k) = (if (!a.stuck.contains k) = true then m + 2 ^ k else m)
    cases a.stuck.contains k <;> rfl
  · rfl
theorem canBuy_eq {a : Abs} (o : AOk a) {k : Nat} (hk : k < a.set.slots) : Kp123.canBuy a k =
    (!(decide (Kp123.left_ a.set a.w k = 0) || a.failed.contains k) && (decide (0 ≤ Kp123.credit a.set a.w - (at_ a.set.price k : Nat)) && Kp122.canPay (Kp123.coins a) (a.credit - at_ a.set.price k))) := by
  unfold Kp123.canBuy Kp123.canPay
  have h1 := o.l0 k hk
  have hc := credit_nat o
  have e1 : decide (k < a.set.slots) = true := decide_eq_true hk
  have e2 : decide (0 < Kp123.left_ a.set a.w k) = !decide (Kp123.left_ a.set a.w k = 0) := by
    by_cases h : Kp123.left_ a.set a.w k = 0
    · rw [h]; rfl
    · have h2 : 0 < Kp123.left_ a.set a.w k := by omega
      rw [decide_eq_true h2, decide_eq_false h]; rfl
  have e3 : decide (at_ a.set.price k ≤ a.credit) = decide (0 ≤ Kp123.credit a.set a.w - (at_ a.set.price k : Nat)) := decide_eq_decide.mpr (by omega)
  rw [e1, e2, e3]
  cases decide (Kp123.left_ a.set a.w k = 0) <;> cases a.failed.contains k <;> cases decide (0 ≤ Kp123.credit a.set a.w - (at_ a.set.price k : Nat)) <;> simp
theorem canBuy_facts {a : Abs} {k : Nat} (h : Kp123.canBuy a k = true) : k < a.set.slots ∧ 0 < Kp123.left_ a.set a.w k ∧ at_ a.set.price k ≤ a.credit := by
  unfold Kp123.canBuy at h
  simp only [Bool.and_eq_true, decide_eq_true_eq] at h
  exact ⟨h.1.1.1.1, h.1.1.1.2, h.1.2⟩
/-! ### reading a line -/
def putRow (x : List Int) : List Int := (x.length : Int) :: x
theorem row_inv {l x r : List Int} (h : PyFlat.row l = some (x, r)) : l = (x.length : Int) :: (x ++ r) := by
  cases l with
  | nil => cases h
  | cons n q =>
    have h : (if 0 ≤ n ∧ n.toNat ≤ q.length then some (q.take n.toNat, q.drop n.toNat) else none) = some (x, r) := h
    by_cases k : 0 ≤ n ∧ n.toNat ≤ q.length
    · rw [if_pos k] at h
      obtain ⟨e1, e2⟩ := Prod.mk.inj (Option.some.inj h)
      have hl : x.length = n.toNat := by rw [← e1, List.length_take]; omega
      rw [← e1, ← e2, List.take_append_drop, e1, hl]
      congr 1
      omega
    · rw [if_neg k] at h; cases h
theorem rows_inv : ∀ {k : Nat} {l : List Int} {xs : List (List Int)} {r : List Int}, PyFlat.rows (k + 1) l = some (xs, r) → ∃ x ys q, l = (x.length : Int) :: (x ++ q) ∧ PyFlat.rows k q = some (ys, r) ∧ xs = x :: ys := by
  intro k l xs r h
  unfold PyFlat.rows at h
  cases e : PyFlat.row l with
  | none => rw [e] at h; cases h
  | some p =>
    obtain ⟨x, q⟩ := p
    rw [e] at h
    simp only at h
    cases e2 : PyFlat.rows k q with
    | none => rw [e2] at h; cases h
    | some p2 =>
      obtain ⟨ys, r'⟩ := p2
      rw [e2] at h
      obtain ⟨a1, a2⟩ := Prod.mk.inj (Option.some.inj h)
      subst a1 a2
      exact ⟨x, ys, q, row_inv e, e2, rfl⟩
theorem rows_zero {l : List Int} {xs : List (List Int)} {r : List Int} (h : PyFlat.rows 0 l = some (xs, r)) : xs = [] ∧ l = r := by
  obtain ⟨a1, a2⟩ := Prod.mk.inj (Option.some.inj h)
  exact ⟨a1.symm, a2⟩
/-- the call that stands next -/
inductive Next : List Int → List (List Int) → List Int → Prop
  | start {k s m z v t p q i o f w rest} : Next (0 :: k :: s :: m :: z :: ((v.length : Int) :: (v ++ ((t.length : Int) :: (t ++ ((p.length : Int) :: (p ++ ((q.length : Int) :: (q ++ ((i.length : Int) :: (i ++ ((o.length : Int) :: (o ++ ((f.length : Int) :: (f ++ ((w.length : Int) :: (w ++ rest)))))))))))))))))
      [[0, k, s, m, z], v, t, p, q, i, o, f, w] rest
  | press {s w rest} : Next (1 :: s :: ((w.length : Int) :: (w ++ rest))) [[1, s], w] rest
  | cancel {w rest} : Next (2 :: ((w.length : Int) :: (w ++ rest))) [[2], w] rest
  | tick {w rest} : Next (3 :: ((w.length : Int) :: (w ++ rest))) [[3], w] rest
theorem next_of {p : Int} {l : List Int} {c : List (List Int)} {r : List Int} (h : PyFlat.call PyKp123.shape (p :: l) = some (c, r)) : Next (p :: l) c r := by
  unfold PyFlat.call at h
  unfold PyKp123.shape at h
  dsimp only at h
  by_cases h0 : p = 0
  · subst h0
    simp only [if_true] at h
    by_cases hl : l.length < 4
    · rw [if_pos hl] at h; cases h
    · rw [if_neg hl] at h
      obtain ⟨k, s, m, z, l', rfl⟩ : ∃ k s m z l', l = k :: s :: m :: z :: l' := by
        match l, hl with
        | k :: s :: m :: z :: l', _ => exact ⟨k, s, m, z, l', rfl⟩
        | [], hl => simp at hl
        | [_], hl => simp at hl
        | [_, _], hl => simp at hl
        | [_, _, _], hl => simp at hl
      cases e : PyFlat.rows 8 ((k :: s :: m :: z :: l').drop 4) with
      | none => rw [e] at h; cases h
      | some q =>
        obtain ⟨xs, r'⟩ := q
        rw [e] at h
        obtain ⟨a1, a2⟩ := Prod.mk.inj (Option.some.inj h)
        subst a1 a2
        have k0 : PyFlat.rows 8 l' = some (xs, r') := e
        obtain ⟨x1, y1, q1, e1, k1, z1⟩ := rows_inv k0
        obtain ⟨x2, y2, q2, e2, k2, z2⟩ := rows_inv k1
        obtain ⟨x3, y3, q3, e3, k3, z3⟩ := rows_inv k2
        obtain ⟨x4, y4, q4, e4, k4, z4⟩ := rows_inv k3
        obtain ⟨x5, y5, q5, e5, k5, z5⟩ := rows_inv k4
        obtain ⟨x6, y6, q6, e6, k6, z6⟩ := rows_inv k5
        obtain ⟨x7, y7, q7, e7, k7, z7⟩ := rows_inv k6
        obtain ⟨x8, y8, q8, e8, k8, z8⟩ := rows_inv k7
        obtain ⟨z9, z10⟩ := rows_zero k8
        rw [z1, z2, z3, z4, z5, z6, z7, z8, z9, e1, e2, e3, e4, e5, e6, e7, e8, z10]
        exact .start
  · rw [if_neg h0] at h
    by_cases h1 : p = 1
    · subst h1
      simp only [if_true] at h
      by_cases hl : l.length < 1
      · rw [if_pos hl] at h; cases h
      · rw [if_neg hl] at h
        obtain ⟨s, l', rfl⟩ : ∃ s l', l = s :: l' := by
          match l, hl with
          | s :: l', _ => exact ⟨s, l', rfl⟩
          | [], hl => simp at hl
        cases e : PyFlat.rows 1 ((s :: l').drop 1) with
        | none => rw [e] at h; cases h
        | some q =>
          obtain ⟨xs, r'⟩ := q
          rw [e] at h
          obtain ⟨a1, a2⟩ := Prod.mk.inj (Option.some.inj h)
          subst a1 a2
          have k0 : PyFlat.rows 1 l' = some (xs, r') := e
          obtain ⟨x1, y1, q1, e1, k1, z1⟩ := rows_inv k0
          obtain ⟨z9, z10⟩ := rows_zero k1
          rw [z1, z9, e1, z10]
          exact .press
    · rw [if_neg h1] at h
      by_cases h2 : p = 2
      · subst h2
        simp only [if_true, Nat.not_lt_zero, if_false] at h
        cases e : PyFlat.rows 1 (l.drop 0) with
        | none => rw [e] at h; cases h
        | some q =>
          obtain ⟨xs, r'⟩ := q
          rw [e] at h
          obtain ⟨a1, a2⟩ := Prod.mk.inj (Option.some.inj h)
          subst a1 a2
          have k0 : PyFlat.rows 1 l = some (xs, r') := e
          obtain ⟨x1, y1, q1, e1, k1, z1⟩ := rows_inv k0
          obtain ⟨z9, z10⟩ := rows_zero k1
          rw [z1, z9, e1, z10]
          exact .cancel
      · rw [if_neg h2] at h
        by_cases h3 : p = 3
        · subst h3
          simp only [if_true, Nat.not_lt_zero, if_false] at h
          cases e : PyFlat.rows 1 (l.drop 0) with
          | none => rw [e] at h; cases h
          | some q =>
            obtain ⟨xs, r'⟩ := q
            rw [e] at h
            obtain ⟨a1, a2⟩ := Prod.mk.inj (Option.some.inj h)
            subst a1 a2
            have k0 : PyFlat.rows 1 l = some (xs, r') := e
            obtain ⟨x1, y1, q1, e1, k1, z1⟩ := rows_inv k0
            obtain ⟨z9, z10⟩ := rows_zero k1
            rw [z1, z9, e1, z10]
            exact .tick
        · rw [if_neg h3] at h; cases h
theorem whole_id (c : List (List Int)) : PyKp123.whole c = c := by
  unfold PyKp123.whole
  split <;> rfl
/-- a line's calls, one behind another -/
inductive Line : List Int → List (List (List Int)) → Prop
  | nil : Line [] []
  | cons {l c r cs} : Next l c r → Line r cs → Line l (c :: cs)
theorem line_of : ∀ (f : Nat) (l : List Int) (cs : List (List (List Int))), PyFlat.calls PyKp123.shape f l = some cs → Line l cs
  | f, [], cs, h => by
    have h : some [] = some cs := by
      cases f <;> exact h
    cases h
    exact .nil
  | 0, p :: r, cs, h => by cases h
  | f + 1, p :: r, cs, h => by
    unfold PyFlat.calls at h
    cases e : PyFlat.call PyKp123.shape (p :: r) with
    | none => rw [e] at h; cases h
    | some q =>
      obtain ⟨c, t⟩ := q
      rw [e] at h
      simp only at h
      cases e2 : PyFlat.calls PyKp123.shape f t with
      | none => rw [e2] at h; cases h
      | some ds =>
        rw [e2] at h
        cases h
        exact .cons (next_of e) (line_of f t ds e2)
theorem asked_line {l : List Int} (h : PyKp123.answers_asked l = true) : ∃ cs, Line l cs ∧ cs.length ≤ 60 ∧ Kp123Neutral.askedFrom Kp123Neutral.start cs = true ∧ Kp123Neutral.told_ Kp123Neutral.start cs < 1000000 ∧
    PyKp123.answers l = PyFlat.told (PyFlat.played Kp123Neutral.step Kp123Neutral.start cs) := by
  unfold PyKp123.answers_asked at h
  cases e : PyKp123.calls l with
  | none => rw [e] at h; cases h
  | some ds =>
    rw [e] at h
    have h : (PyFlat.atMost 60 ds && Kp123Neutral.asked ds) = true := h
    have e' := e
    unfold PyKp123.calls at e
    cases e2 : PyFlat.calls PyKp123.shape l.length l with
    | none => rw [e2] at e; cases e
    | some cs =>
      rw [e2] at e
      have e : some (cs.map PyKp123.whole) = some ds := e
      have hid : cs.map PyKp123.whole = cs := by
        have : PyKp123.whole = id := funext whole_id
        rw [this, List.map_id]
      rw [hid] at e
      have e := Option.some.inj e
      subst e
      unfold Kp123Neutral.asked PyFlat.atMost at h
      simp only [Bool.and_eq_true, decide_eq_true_eq] at h
      refine ⟨cs, line_of _ _ _ e2, h.1, h.2.2.2.1, h.2.2.2.2, ?_⟩
      unfold PyKp123.answers
      rw [e']
end Hs
end
section
set_option Elab.async false
set_option linter.all false
set_option maxRecDepth 100000
set_option maxHeartbeats 2000000
namespace Hs
open PySem PySem.Spec PyProof.Rows L2
/-! ### owned cells, and a frame -/
abbrev Cells := List (Addr × HO)
structure Sep (G H : Hp) (cs : Cells) : Prop where
  same : Same G H
  nd : (cs.map (·.1)).Nodup
  own : ∀ x ∈ cs, G x.1 = Option.none ∧ H x.1 = some x.2
theorem same_new {H : Hp} {p : Addr} {o : HO} (h : H p = Option.none) : Same H (upd H p o) := fun b u e => by
  rw [upd_ne (ne_of_none e h)]; exact e
theorem Sep.at {G H : Hp} {cs : Cells} (h : Sep G H cs) (i : Nat) {b : Addr} {o : HO} (hi : cs[i]? = some (b, o) := by rfl) : H b = some o :=
  (h.own (b, o) (List.mem_of_getElem? hi)).2
theorem Sep.ext {G H H' : Hp} {cs : Cells} (h : Sep G H cs) (s : Same H H') : Sep G H' cs :=
  ⟨h.same.trans s, h.nd, fun x hx => ⟨(h.own x hx).1, s _ _ (h.own x hx).2⟩⟩
theorem Sep.new {G H : Hp} {cs : Cells} {p : Addr} {o : HO} (h : Sep G H cs) (hp : H p = Option.none) : Sep G (upd H p o) ((p, o) :: cs) := by
  refine ⟨h.same.trans (same_new hp), List.nodup_cons.mpr ⟨fun m => ?_, h.nd⟩, fun x hx => ?_⟩
  · obtain ⟨x, hx, e⟩ := List.mem_map.mp m
    have := (h.own x hx).2
    rw [e, hp] at this
    cases this
  · rcases List.mem_cons.mp hx with e | hx
    · rw [e]; exact ⟨h.same.free hp, upd_same⟩
    · exact ⟨(h.own x hx).1, same_new hp _ _ (h.own x hx).2⟩
theorem set_keys {cs : Cells} {i : Nat} {b : Addr} {o o' : HO} (hi : cs[i]? = some (b, o)) : (cs.set i (b, o')).map (·.1) = cs.map (·.1) := by
  rw [List.map_set]
  refine List.ext_getElem? fun j => ?_
  rw [List.getElem?_set]
  by_cases e : i = j
  · subst e
    rw [if_pos rfl, List.getElem?_map, hi]
    have hl := (List.getElem?_eq_some_iff.mp hi).1
    simp [hl]
  · rw [if_neg e]
theorem Sep.set {G H : Hp} {cs : Cells} (h : Sep G H cs) (i : Nat) {b : Addr} {o : HO} (o' : HO) (hi : cs[i]? = some (b, o) := by rfl) : Sep G (upd H b o') (cs.set i (b, o')) := by
  have hl := (List.getElem?_eq_some_iff.mp hi).1
  have hb := h.own (b, o) (List.mem_of_getElem? hi)
  refine ⟨fun c u e => ?_, by rw [set_keys hi]; exact h.nd, fun x hx => ?_⟩
  · rw [upd_ne (fun q => by rw [q, hb.1] at e; cases e)]; exact h.same c u e
  · obtain ⟨j, hj⟩ := List.getElem?_of_mem hx
    rw [List.getElem?_set] at hj
    by_cases e : i = j
    · rw [if_pos e, if_pos hl] at hj
      cases hj
      exact ⟨hb.1, upd_same⟩
    · rw [if_neg e] at hj
      have hm := List.mem_of_getElem? hj
      have hne : x.1 ≠ b := fun q => by
        have a1 : (cs.map (·.1))[j]? = some b := by rw [List.getElem?_map, hj]; show some x.1 = _; rw [q]
        have a2 : (cs.map (·.1))[i]? = some b := by rw [List.getElem?_map, hi]; rfl
        exact e (nd_ix h.nd a2 a1)
      exact ⟨(h.own x hm).1, by rw [upd_ne hne]; exact (h.own x hm).2⟩
theorem Sep.drop1 {G H : Hp} {cs : Cells} {x : Addr × HO} (h : Sep G H (x :: cs)) : Sep G H cs :=
  ⟨h.same, (List.nodup_cons.mp h.nd).2, fun y hy => h.own y (List.mem_cons_of_mem _ hy)⟩
theorem Sep.perm {G H : Hp} {cs ds : Cells} (p : cs.Perm ds) (h : Sep G H cs) : Sep G H ds :=
  ⟨h.same, (p.map _).nodup_iff.mp h.nd, fun x hx => h.own x (p.mem_iff.mpr hx)⟩
theorem Sep.add {G H H' : Hp} {cs : Cells} {p : Addr} {o : HO} (h : Sep G H cs) (s : Same H H') (hp : H p = Option.none) (hp' : H' p = some o) : Sep G H' ((p, o) :: cs) := by
  refine ⟨h.same.trans s, List.nodup_cons.mpr ⟨fun m => ?_, h.nd⟩, fun x hx => ?_⟩
  · obtain ⟨x, hx, e⟩ := List.mem_map.mp m
    have := (h.own x hx).2
    rw [e, hp] at this
    cases this
  · rcases List.mem_cons.mp hx with e | hx
    · rw [e]; exact ⟨h.same.free hp, hp'⟩
    · exact ⟨(h.own x hx).1, s _ _ (h.own x hx).2⟩
/-- a smaller frame -/
theorem Sep.weak {G G' H : Hp} {cs : Cells} (s : Same G G') (h : Sep G' H cs) : Sep G H cs := ⟨s.trans h.same, h.nd, fun x hx => ⟨s.free (h.own x hx).1, (h.own x hx).2⟩⟩
theorem Sep.start (H : Hp) : Sep H H [] := ⟨Same.refl H, List.nodup_nil, fun x hx => by cases hx⟩
/-- the frame and some cells beside it -/
def addC (G : Hp) (ds : Cells) : Hp := fun b => match ds.find? (fun x => decide (x.1 = b)) with
  | some x => some x.2
  | Option.none => G b
theorem addC_out {G : Hp} {ds : Cells} {b : Addr} (h : b ∉ ds.map (·.1)) : addC G ds b = G b := by
  unfold addC
  have : ds.find? (fun x => decide (x.1 = b)) = Option.none := List.find?_eq_none.mpr fun x hx => by
    simp only [decide_eq_true_eq]
    exact fun e => h (List.mem_map.mpr ⟨x, hx, e⟩)
  rw [this]
theorem addC_in {G : Hp} {ds : Cells} (nd : (ds.map (·.1)).Nodup) {x : Addr × HO} (h : x ∈ ds) : addC G ds x.1 = some x.2 := by
  unfold addC
  cases e : ds.find? (fun y => decide (y.1 = x.1)) with
  | none => exact absurd (List.find?_eq_none.mp e x h) (by simp)
  | some y =>
    have h1 : y.1 = x.1 := by simpa using List.find?_some e
    have h2 := List.mem_of_find?_eq_some e
    obtain ⟨i, hi⟩ := List.getElem?_of_mem h
    obtain ⟨j, hj⟩ := List.getElem?_of_mem h2
    have a1 : (ds.map (·.1))[i]? = some x.1 := by rw [List.getElem?_map, hi]; rfl
    have a2 : (ds.map (·.1))[j]? = some x.1 := by rw [List.getElem?_map, hj, ← h1]; rfl
    have := nd_ix nd a1 a2
    subst this
    rw [hi] at hj
    cases hj
    rfl
theorem Sep.lend {G H : Hp} {cs : Cells} (ds : Cells) (h : Sep G H (cs ++ ds)) : Sep (addC G ds) H cs := by
  have nd : (cs.map (·.1) ++ ds.map (·.1)).Nodup := by rw [← List.map_append]; exact h.nd
  obtain ⟨n1, n2, n3⟩ := List.nodup_append.mp nd
  refine ⟨fun b o e => ?_, n1, fun x hx => ⟨?_, (h.own x (List.mem_append_left _ hx)).2⟩⟩
  · by_cases hb : b ∈ ds.map (·.1)
    · obtain ⟨x, hx, q⟩ := List.mem_map.mp hb
      subst q
      rw [addC_in n2 hx] at e
      cases e
      exact (h.own x (List.mem_append_right _ hx)).2
    · rw [addC_out hb] at e
      exact h.same b o e
  · rw [addC_out fun m => n3 x.1 (List.mem_map.mpr ⟨x, hx, rfl⟩) x.1 m rfl]
    exact (h.own x (List.mem_append_left _ hx)).1
theorem Sep.back {G H H' : Hp} {cs cs' : Cells} {ds : Cells} (h : Sep G H (cs ++ ds)) (h' : Sep (addC G ds) H' cs') : Sep G H' (cs' ++ ds) := by
  have nd : (cs.map (·.1) ++ ds.map (·.1)).Nodup := by rw [← List.map_append]; exact h.nd
  obtain ⟨n1, n2, n3⟩ := List.nodup_append.mp nd
  have free : ∀ x ∈ ds, G x.1 = Option.none := fun x hx => (h.own x (List.mem_append_right _ hx)).1
  have apart : ∀ b, addC G ds b = Option.none → b ∉ ds.map (·.1) := fun b e m => by
    obtain ⟨x, hx, q⟩ := List.mem_map.mp m
    subst q
    rw [addC_in n2 hx] at e
    cases e
  refine ⟨fun b o e => h'.same b o ?_, ?_, fun x hx => ?_⟩
  · rw [addC_out fun m => by
      obtain ⟨x, hx, q⟩ := List.mem_map.mp m
      subst q
      rw [free x hx] at e
      cases e]
    exact e
  · rw [List.map_append]
    refine List.nodup_append.mpr ⟨h'.nd, n2, fun a ha b hb q => ?_⟩
    obtain ⟨x, hx, qx⟩ := List.mem_map.mp ha
    subst q
    exact apart a (by rw [← qx]; exact (h'.own x hx).1) hb
  · rcases List.mem_append.mp hx with hx | hx
    · obtain ⟨a1, a2⟩ := h'.own x hx
      rw [addC_out (apart _ a1)] at a1
      exact ⟨a1, a2⟩
    · exact ⟨free x hx, h'.same _ _ (addC_in n2 hx)⟩
/-- what lies in the frame lies in the larger one -/
theorem addC_of {G H : Hp} {cs ds : Cells} (h : Sep G H (cs ++ ds)) {b : Addr} {o : HO} (e : G b = some o) : addC G ds b = some o := by
  rw [addC_out fun m => by
    obtain ⟨x, hx, q⟩ := List.mem_map.mp m
    subst q
    rw [(h.own x (List.mem_append_right _ hx)).1] at e
    cases e]
  exact e
/-! ### fields -/
theorem lk_hit {k : Str} {v : V} {r : List (Str × V)} : ((k, v) :: r).lookup k = some v := by
  rw [List.lookup_cons]; simp
theorem lk_miss {k k' : Str} {v : V} {r : List (Str × V)} {x : Option V} (h : (k' == k) = false) (e : r.lookup k' = x) : ((k, v) :: r).lookup k' = x := by
  rw [List.lookup_cons, h]; exact e
theorem lk_nil {k : Str} : ([] : List (Str × V)).lookup k = Option.none := rfl
theorem put_nil {k : Str} {v : V} : putF k v [] = [(k, v)] := rfl
theorem put_hit {k : Str} {v x : V} {r : List (Str × V)} : putF k v ((k, x) :: r) = (k, v) :: r := by
  unfold putF
  simp
theorem put_miss {k k' : Str} {v x : V} {r r' : List (Str × V)} (h : (k' == k) = false) (e : putF k' v r = r') : putF k' v ((k, x) :: r) = (k, x) :: r' := by
  have hne : ¬ k = k' := fun q => by subst q; simp at h
  have hne' : ¬ k' = k := fun q => by subst q; simp at h
  unfold putF
  rw [← e]
  simp [hne, hne']
end Hs
end
section
set_option Elab.async false
set_option linter.all false
set_option maxRecDepth 100000
set_option maxHeartbeats 2000000
namespace Hs
open PySem PySem.Spec PyProof.Rows L2
open Sem (wp)
/-! ### zip of three lists -/
theorem typeCall_zip_3 (a b c : Value) : checkTypeCall "zip" ⟨[a, b, c], []⟩ = pure () := by kernel_rfl
theorem newCall_zip_3 (a b c : Value) : checkBuiltinCall "zip.__new__" ⟨[.type "zip", a, b, c], []⟩ = pure () := by kernel_rfl
theorem args_object_init_4 (a b c d : Value) : argsOk "object.__init__" ⟨[a, b, c, d], []⟩ := by
  unfold argsOk; rw [signature?_of (id := "object.__init__") (n := ['_', '_', 't', 'i', 'n', 'i', '_', '_']) (o := ['t', 'c', 'e', 'j', 'b', 'o']) (by kernel_rfl) F.owner_object]; kernel_rfl
abbrev IsTrip (h : Heap) (T : Addr) (a b c : Value) : Prop := h.get? T = some { cls := .type "tuple", data := .seq #[a, b, c] }
section
variable {prog : Program} {w : World} {A : Around} {E : Value → Shared → Prop} {s : Shared}
theorem updateSeq_trip {T : Addr} {a b c x : Value} {k : Nat} {Q : Unit → Shared → Prop} (hT : IsTrip s.heap T a b c)
    (h : ∀ h', h'.get? T = some { cls := .type "tuple", data := .seq ((#[a, b, c] : Array Value).setIfInBounds k x) } → Heap.SameBut T s.heap h' → Q () { s with heap := h' }) :
    wpAny (model prog w) A (updateSeq T (·.setIfInBounds k x)) Q E s := by
  refine wpAny_updateSeq hT rfl (h _ ?_ (Heap.SameBut.update ..))
  rw [Heap.get?_update_self _ hT rfl]
  simp [Obj.mapSeq]
structure ZipApart3 (z TI TO i1 i2 i3 l1 l2 l3 : Addr) : Prop where
  nd : [z, TI, TO, i1, i2, i3].Nodup
  a1 : l1 ∉ [z, TO, i1, i2, i3]
  a2 : l2 ∉ [z, TO, i1, i2, i3]
  a3 : l3 ∉ [z, TO, i1, i2, i3]
theorem zip3_next_item {z TI TO i1 i2 i3 l1 l2 l3 : Addr} {k1 k2 k3 : Nat} {xs ys zs : Array Value} {x y u a b c : Value} {Q : Value → Shared → Prop} (D : ZipApart3 z TI TO i1 i2 i3 l1 l2 l3)
    (hz : IsZip s.heap z TI TO .none) (hTI : IsTrip s.heap TI (.ref i1) (.ref i2) (.ref i3)) (hTO : IsTrip s.heap TO a b c)
    (h1 : s.heap.IsListIter i1 l1 k1) (h2 : s.heap.IsListIter i2 l2 k2) (h3 : s.heap.IsListIter i3 l3 k3) (hl1 : s.heap.IsList l1 xs) (hl2 : s.heap.IsList l2 ys) (hl3 : s.heap.IsList l3 zs)
    (hx : xs[k1]? = some x) (hy : ys[k2]? = some y) (hu : zs[k3]? = some u)
    (hQ : ∀ h', IsZip h' z TI TO (rawInt s.heap.objs.size) → IsTrip h' TO x y u → h'.IsListIter i1 l1 (k1 + 1) → h'.IsListIter i2 l2 (k2 + 1) → h'.IsListIter i3 l3 (k3 + 1) → IsTrip h' s.heap.objs.size x y u → h'.objs.size = s.heap.objs.size + 1 →
      (∀ c o, c ≠ z → c ≠ TO → c ≠ i1 → c ≠ i2 → c ≠ i3 → s.heap.get? c = some o → h'.get? c = some o) → Q (.ref s.heap.objs.size) { s with heap := h' }) :
    wpAny (model prog w) A (Builtin.«zip.__next__» ⟨[.ref z], []⟩) (fun fin s' => ∃ v, fin = .done (.ret v) ∧ Q v s') E s := by
  obtain ⟨nd, a1, a2, a3⟩ := D
  simp only [List.nodup_cons, List.mem_cons, List.not_mem_nil, or_false, not_or, not_false_eq_true, List.nodup_nil, and_true] at nd a1 a2 a3
  obtain ⟨⟨zTI, zTO, z1, z2, z3⟩, ⟨TITO, TI1, TI2, TI3⟩, ⟨TO1, TO2, TO3⟩, ⟨i12, i13⟩, i23⟩ := nd
  obtain ⟨l1z, l1TO, l11, l12, l13⟩ := a1
  obtain ⟨l2z, l2TO, l21, l22, l23⟩ := a2
  obtain ⟨l3z, l3TO, l31, l32, l33⟩ := a3
  show wpAny _ _ (field (.ref z) 2 >>= _) _ _ _
  refine wpAny_bind (wpAny_field hz rfl (x := .bool false) rfl ?_)
  show wpAny _ _ (field (.ref z) 3 >>= _) _ _ _
  refine wpAny_bind (wpAny_field hz rfl (x := .ref TI) rfl ?_)
  refine wpAny_bind (wpAny_seqItems hTI rfl ?_)
  show wpAny _ _ (Builtin.SmallTypes.ownedTupleIsFree (.ref z) >>= _) _ _ _
  refine wpAny_bind ?_
  unfold Builtin.SmallTypes.ownedTupleIsFree
  refine wpAny_bind (wpAny_field hz rfl (x := .none) rfl (wpAny_pure ?_))
  simp only [if_true]
  refine wpAny_bind (wpAny_rule ?_)
  refine wpAny_bind (wpAny_field hz rfl (x := .ref TO) rfl ?_)
  refine wpAny_bind (wpAny_setField_rec hz (by simp) fun g1 hz1 hs1 => ?_)
  replace hz1 : IsZip g1 z TI TO .ellipsis := hz1
  refine wpAny_bind ?_
  simp only [List.zipIdx_cons, List.zipIdx_nil, List.forIn_cons, List.forIn_nil]
  refine wpAny_bind (wpAny_bind (wpAny_onRaise ?_))
  show wpAny _ _ (Builtin.SmallTypes.nextOf (.ref i1) >>= _) _ _ _
  refine wpAny_bind (wpAny_nextOf_list_item (h1.extBut hs1.extBut (Ne.symm z1)) (hl1.extBut hs1.extBut l1z) hx fun g2 h12 hs2 => wpAny_pure ?_)
  have hTO2 : IsTrip g2 TO a b c := hs2.extBut _ _ TO1 (hs1.extBut _ _ (Ne.symm zTO) hTO)
  refine wpAny_bind (wpAny_seqItems hTO2 rfl ?_)
  refine wpAny_bind (updateSeq_trip hTO2 fun g3 hTO3 hs3 => ?_)
  replace hTO3 : IsTrip g3 TO x b c := hTO3
  refine wpAny_bind (wpAny_letGo (wpAny_pure ?_))
  refine wpAny_bind (wpAny_bind (wpAny_onRaise ?_))
  show wpAny _ _ (Builtin.SmallTypes.nextOf (.ref i2) >>= _) _ _ _
  refine wpAny_bind (wpAny_nextOf_list_item (((h2.extBut hs1.extBut (Ne.symm z2)).extBut hs2.extBut (Ne.symm i12)).extBut hs3.extBut (Ne.symm TO2))
    (((hl2.extBut hs1.extBut l2z).extBut hs2.extBut l21).extBut hs3.extBut l2TO) hy fun g4 h24 hs4 => wpAny_pure ?_)
  have hTO4 : IsTrip g4 TO x b c := hs4.extBut _ _ TO2 hTO3
  refine wpAny_bind (wpAny_seqItems hTO4 rfl ?_)
  refine wpAny_bind (updateSeq_trip hTO4 fun g5 hTO5 hs5 => ?_)
  replace hTO5 : IsTrip g5 TO x y c := hTO5
  refine wpAny_bind (wpAny_letGo (wpAny_pure ?_))
  refine wpAny_bind (wpAny_bind (wpAny_onRaise ?_))
  show wpAny _ _ (Builtin.SmallTypes.nextOf (.ref i3) >>= _) _ _ _
  refine wpAny_bind (wpAny_nextOf_list_item (((((h3.extBut hs1.extBut (Ne.symm z3)).extBut hs2.extBut (Ne.symm i13)).extBut hs3.extBut (Ne.symm TO3)).extBut hs4.extBut (Ne.symm i23)).extBut hs5.extBut (Ne.symm TO3))
    (((((hl3.extBut hs1.extBut l3z).extBut hs2.extBut l31).extBut hs3.extBut l3TO).extBut hs4.extBut l32).extBut hs5.extBut l3TO) hu fun g6 h36 hs6 => wpAny_pure ?_)
  have hTO6 : IsTrip g6 TO x y c := hs6.extBut _ _ TO3 hTO5
  refine wpAny_bind (wpAny_seqItems hTO6 rfl ?_)
  refine wpAny_bind (updateSeq_trip hTO6 fun g7 hTO7 hs7 => ?_)
  replace hTO7 : IsTrip g7 TO x y u := hTO7
  refine wpAny_bind (wpAny_letGo (wpAny_pure (wpAny_pure ?_)))
  refine wpAny_bind (wpAny_seqItems hTO7 rfl ?_)
  refine wpAny_bind (wpAny_newTuple ?_)
  have hsz : g7.objs.size = s.heap.objs.size := by rw [hs7.1, hs6.1, hs5.1, hs4.1, hs3.1, hs2.1, hs1.1]
  have keep : ∀ q o, q ≠ z → q ≠ TO → q ≠ i1 → q ≠ i2 → q ≠ i3 → s.heap.get? q = some o → g7.get? q = some o := fun q o c1 c2 c3 c4 c5 e =>
    hs7.extBut _ _ c2 (hs6.extBut _ _ c5 (hs5.extBut _ _ c2 (hs4.extBut _ _ c4 (hs3.extBut _ _ c2 (hs2.extBut _ _ c3 (hs1.extBut _ _ c1 e))))))
  have hz7 : IsZip g7 z TI TO .ellipsis := hs7.extBut _ _ zTO (hs6.extBut _ _ z3 (hs5.extBut _ _ zTO (hs4.extBut _ _ z2 (hs3.extBut _ _ zTO (hs2.extBut _ _ z1 hz1)))))
  have h17 : g7.IsListIter i1 l1 (k1 + 1) := ((((h12.extBut hs3.extBut (Ne.symm TO1)).extBut hs4.extBut i12).extBut hs5.extBut (Ne.symm TO1)).extBut hs6.extBut i13).extBut hs7.extBut (Ne.symm TO1)
  have h27 : g7.IsListIter i2 l2 (k2 + 1) := ((h24.extBut hs5.extBut (Ne.symm TO2)).extBut hs6.extBut i23).extBut hs7.extBut (Ne.symm TO2)
  have h37 : g7.IsListIter i3 l3 (k3 + 1) := h36.extBut hs7.extBut (Ne.symm TO3)
  have hzlt : z < g7.objs.size := Heap.lt_size hz7
  show wpAny _ _ (Builtin.SmallTypes.ownedTupleHandOut (.ref z) (.ref g7.objs.size) >>= _) _ _ _
  refine wpAny_bind ?_
  unfold Builtin.SmallTypes.ownedTupleHandOut
  have hz8 : IsZip (g7.push { cls := .type "tuple", data := .seq #[x, y, u] }) z TI TO .ellipsis := Heap.get?_push_of_some _ hz7
  refine wpAny_bind (wpAny_setField_rec hz8 (by simp) fun g9 hz9 hs9 => ?_)
  replace hz9 : IsZip g9 z TI TO (rawInt g7.objs.size) := hz9
  refine wpAny_setField_rec hz9 (by simp) fun g10 hz10 hs10 => ?_
  replace hz10 : IsZip g10 z TI TO (rawInt g7.objs.size) := hz10
  have up : ∀ c o, c ≠ z → g7.get? c = some o → g10.get? c = some o := fun c o c1 e => hs10.extBut _ _ c1 (hs9.extBut _ _ c1 (Heap.get?_push_of_some _ e))
  have hT : IsTrip g10 g7.objs.size x y u := hs10.extBut _ _ (Nat.ne_of_gt hzlt) (hs9.extBut _ _ (Nat.ne_of_gt hzlt) (Heap.get?_push_size _ rfl))
  have hsz2 : g10.objs.size = g7.objs.size + 1 := by rw [hs10.1, hs9.1, Heap.size_push]
  rw [hsz] at hz10 hT hsz2
  refine wpAny_pure ⟨_, rfl, ?_⟩
  show Q (.ref g7.objs.size) _
  rw [hsz]
  exact hQ g10 hz10 (up _ _ (Ne.symm zTO) hTO7) (h17.at fun o e => up _ o (Ne.symm z1) e) (h27.at fun o e => up _ o (Ne.symm z2) e) (h37.at fun o e => up _ o (Ne.symm z3) e) hT hsz2 fun c o c1 c2 c3 c4 c5 e => up c o c1 (keep c o c1 c2 c3 c4 c5 e)
theorem zip3_next_end {z TI TO i1 i2 i3 l1 l2 l3 : Addr} {k1 k2 k3 : Nat} {xs ys zs : Array Value} {a b c : Value} {Q : Fin → Shared → Prop} (hh : A.handled = none) (D : ZipApart3 z TI TO i1 i2 i3 l1 l2 l3)
    (hz : IsZip s.heap z TI TO .none) (hTI : IsTrip s.heap TI (.ref i1) (.ref i2) (.ref i3)) (hTO : IsTrip s.heap TO a b c)
    (h1 : s.heap.IsListIter i1 l1 k1) (h2 : s.heap.IsListIter i2 l2 k2) (h3 : s.heap.IsListIter i3 l3 k3) (hl1 : s.heap.IsList l1 xs) (hl2 : s.heap.IsList l2 ys) (hl3 : s.heap.IsList l3 zs)
    (hend : xs[k1]? = none ∨ ys[k2]? = none ∨ zs[k3]? = none)
    (hE : ∀ h' e, (∀ c o, c ≠ z → c ≠ TO → c ≠ i1 → c ≠ i2 → c ≠ i3 → s.heap.get? c = some o → h'.get? c = some o) → (∃ o, h'.get? e = some o ∧ o.cls = .type "StopIteration") → E (.ref e) { s with heap := h' }) :
    wpAny (model prog w) A (Builtin.«zip.__next__» ⟨[.ref z], []⟩) Q E s := by
  obtain ⟨nd, a1, a2, a3⟩ := D
  simp only [List.nodup_cons, List.mem_cons, List.not_mem_nil, or_false, not_or, not_false_eq_true, List.nodup_nil, and_true] at nd a1 a2 a3
  obtain ⟨⟨zTI, zTO, z1, z2, z3⟩, ⟨TITO, TI1, TI2, TI3⟩, ⟨TO1, TO2, TO3⟩, ⟨i12, i13⟩, i23⟩ := nd
  obtain ⟨l1z, l1TO, l11, l12, l13⟩ := a1
  obtain ⟨l2z, l2TO, l21, l22, l23⟩ := a2
  obtain ⟨l3z, l3TO, l31, l32, l33⟩ := a3
  show wpAny _ _ (field (.ref z) 2 >>= _) _ _ _
  refine wpAny_bind (wpAny_field hz rfl (x := .bool false) rfl ?_)
  show wpAny _ _ (field (.ref z) 3 >>= _) _ _ _
  refine wpAny_bind (wpAny_field hz rfl (x := .ref TI) rfl ?_)
  refine wpAny_bind (wpAny_seqItems hTI rfl ?_)
  show wpAny _ _ (Builtin.SmallTypes.ownedTupleIsFree (.ref z) >>= _) _ _ _
  refine wpAny_bind ?_
  unfold Builtin.SmallTypes.ownedTupleIsFree
  refine wpAny_bind (wpAny_field hz rfl (x := .none) rfl (wpAny_pure ?_))
  simp only [if_true]
  refine wpAny_bind (wpAny_rule ?_)
  refine wpAny_bind (wpAny_field hz rfl (x := .ref TO) rfl ?_)
  refine wpAny_bind (wpAny_setField_rec hz (by simp) fun g1 hz1 hs1 => ?_)
  replace hz1 : IsZip g1 z TI TO .ellipsis := hz1
  refine wpAny_bind ?_
  simp only [List.zipIdx_cons, List.zipIdx_nil, List.forIn_cons, List.forIn_nil]
  refine wpAny_bind (wpAny_bind (wpAny_onRaise ?_))
  show wpAny _ _ (Builtin.SmallTypes.nextOf (.ref i1) >>= _) _ _ _
  cases hx : xs[k1]? with
  | none =>
    refine wpAny_bind (wpAny_nextOf_list_end hh (h1.extBut hs1.extBut (Ne.symm z1)) (hl1.extBut hs1.extBut l1z) hx fun g2 e hs2 he => ?_)
    obtain ⟨oe, hoe, hce⟩ := he
    have hz2 : IsZip g2 z TI TO .ellipsis := hs2 _ _ z1 hz1
    have hez : e ≠ z := fun q => by subst q; rw [hz2] at hoe; cases hoe; simp at hce
    exact wpAny_setField_rec hz2 (by simp) fun g3 _ hs3 => hE g3 e (fun c o c1 _ c3 _ _ q => hs3.extBut _ _ c1 (hs2 _ _ c3 (hs1.extBut _ _ c1 q))) ⟨oe, hs3.extBut _ _ hez hoe, hce⟩
  | some x =>
    refine wpAny_bind (wpAny_nextOf_list_item (h1.extBut hs1.extBut (Ne.symm z1)) (hl1.extBut hs1.extBut l1z) hx fun g2 h12 hs2 => wpAny_pure ?_)
    have hTO2 : IsTrip g2 TO a b c := hs2.extBut _ _ TO1 (hs1.extBut _ _ (Ne.symm zTO) hTO)
    refine wpAny_bind (wpAny_seqItems hTO2 rfl ?_)
    refine wpAny_bind (updateSeq_trip hTO2 fun g3 hTO3 hs3 => ?_)
    replace hTO3 : IsTrip g3 TO x b c := hTO3
    refine wpAny_bind (wpAny_letGo (wpAny_pure ?_))
    refine wpAny_bind (wpAny_bind (wpAny_onRaise ?_))
    show wpAny _ _ (Builtin.SmallTypes.nextOf (.ref i2) >>= _) _ _ _
    have hz3 : IsZip g3 z TI TO .ellipsis := hs3.extBut _ _ zTO (hs2.extBut _ _ z1 hz1)
    cases hy : ys[k2]? with
    | none =>
      refine wpAny_bind (wpAny_nextOf_list_end hh (((h2.extBut hs1.extBut (Ne.symm z2)).extBut hs2.extBut (Ne.symm i12)).extBut hs3.extBut (Ne.symm TO2))
        (((hl2.extBut hs1.extBut l2z).extBut hs2.extBut l21).extBut hs3.extBut l2TO) hy fun g4 e hs4 he => ?_)
      obtain ⟨oe, hoe, hce⟩ := he
      have hz4 : IsZip g4 z TI TO .ellipsis := hs4 _ _ z2 hz3
      have hez : e ≠ z := fun q => by subst q; rw [hz4] at hoe; cases hoe; simp at hce
      exact wpAny_setField_rec hz4 (by simp) fun g5 _ hs5 => hE g5 e (fun c o c1 c2 c3 c4 _ q => hs5.extBut _ _ c1 (hs4 _ _ c4 (hs3.extBut _ _ c2 (hs2.extBut _ _ c3 (hs1.extBut _ _ c1 q))))) ⟨oe, hs5.extBut _ _ hez hoe, hce⟩
    | some y =>
      have hu : zs[k3]? = none := by
        rcases hend with h | h | h
        · rw [hx] at h; cases h
        · rw [hy] at h; cases h
        · exact h
      refine wpAny_bind (wpAny_nextOf_list_item (((h2.extBut hs1.extBut (Ne.symm z2)).extBut hs2.extBut (Ne.symm i12)).extBut hs3.extBut (Ne.symm TO2))
        (((hl2.extBut hs1.extBut l2z).extBut hs2.extBut l21).extBut hs3.extBut l2TO) hy fun g4 h24 hs4 => wpAny_pure ?_)
      have hTO4 : IsTrip g4 TO x b c := hs4.extBut _ _ TO2 hTO3
      refine wpAny_bind (wpAny_seqItems hTO4 rfl ?_)
      refine wpAny_bind (updateSeq_trip hTO4 fun g5 hTO5 hs5 => ?_)
      refine wpAny_bind (wpAny_letGo (wpAny_pure ?_))
      refine wpAny_bind (wpAny_bind (wpAny_onRaise ?_))
      show wpAny _ _ (Builtin.SmallTypes.nextOf (.ref i3) >>= _) _ _ _
      refine wpAny_bind (wpAny_nextOf_list_end hh (((((h3.extBut hs1.extBut (Ne.symm z3)).extBut hs2.extBut (Ne.symm i13)).extBut hs3.extBut (Ne.symm TO3)).extBut hs4.extBut (Ne.symm i23)).extBut hs5.extBut (Ne.symm TO3))
        (((((hl3.extBut hs1.extBut l3z).extBut hs2.extBut l31).extBut hs3.extBut l3TO).extBut hs4.extBut l32).extBut hs5.extBut l3TO) hu fun g6 e hs6 he => ?_)
      obtain ⟨oe, hoe, hce⟩ := he
      have hz6 : IsZip g6 z TI TO .ellipsis := hs6 _ _ z3 (hs5.extBut _ _ zTO (hs4.extBut _ _ z2 hz3))
      have hez : e ≠ z := fun q => by subst q; rw [hz6] at hoe; cases hoe; simp at hce
      exact wpAny_setField_rec hz6 (by simp) fun g7 _ hs7 => hE g7 e (fun c o c1 c2 c3 c4 c5 q => hs7.extBut _ _ c1 (hs6 _ _ c5 (hs5.extBut _ _ c2 (hs4.extBut _ _ c4 (hs3.extBut _ _ c2 (hs2.extBut _ _ c3 (hs1.extBut _ _ c1 q))))))) ⟨oe, hs7.extBut _ _ hez hoe, hce⟩
theorem pyNext_zip3_item {z TI TO i1 i2 i3 l1 l2 l3 : Addr} {k1 k2 k3 : Nat} {xs ys zs : Array Value} {x y u a b c : Value} {Q : Option Value → Shared → Prop} (D : ZipApart3 z TI TO i1 i2 i3 l1 l2 l3)
    (hz : IsZip s.heap z TI TO .none) (hTI : IsTrip s.heap TI (.ref i1) (.ref i2) (.ref i3)) (hTO : IsTrip s.heap TO a b c)
    (h1 : s.heap.IsListIter i1 l1 k1) (h2 : s.heap.IsListIter i2 l2 k2) (h3 : s.heap.IsListIter i3 l3 k3) (hl1 : s.heap.IsList l1 xs) (hl2 : s.heap.IsList l2 ys) (hl3 : s.heap.IsList l3 zs)
    (hx : xs[k1]? = some x) (hy : ys[k2]? = some y) (hu : zs[k3]? = some u)
    (hQ : ∀ h', IsZip h' z TI TO (rawInt s.heap.objs.size) → IsTrip h' TO x y u → h'.IsListIter i1 l1 (k1 + 1) → h'.IsListIter i2 l2 (k2 + 1) → h'.IsListIter i3 l3 (k3 + 1) → IsTrip h' s.heap.objs.size x y u → h'.objs.size = s.heap.objs.size + 1 →
      (∀ c o, c ≠ z → c ≠ TO → c ≠ i1 → c ≠ i2 → c ≠ i3 → s.heap.get? c = some o → h'.get? c = some o) → Q (some (.ref s.heap.objs.size)) { s with heap := h' }) :
    wpAny (model prog w) A (pyNext (.ref z)) Q E s := by
  have hT : s.TypeIs (.ref z) "zip" := ⟨_, hz, rfl⟩
  unfold pyNext
  exact wpAny_bind (wpAny_attempt (wpAny_callSpecial?_slot (name := Str.ofString "__next__") hT F.slot_zip_next
    (wpAny_call_entry F.slot_zip_next hT F.entry_zip_next
      (zip3_next_item D hz hTI hTO h1 h2 h3 hl1 hl2 hl3 hx hy hu fun h' a1 a2 a3 a4 a5 a6 a7 a8 => wpAny_pure (hQ h' a1 a2 a3 a4 a5 a6 a7 a8)) (F.args_zip_next_1 _))))
theorem pyNext_zip3_end {z TI TO i1 i2 i3 l1 l2 l3 : Addr} {k1 k2 k3 : Nat} {xs ys zs : Array Value} {a b c : Value} {Q : Option Value → Shared → Prop} (hh : A.handled = none) (D : ZipApart3 z TI TO i1 i2 i3 l1 l2 l3)
    (hz : IsZip s.heap z TI TO .none) (hTI : IsTrip s.heap TI (.ref i1) (.ref i2) (.ref i3)) (hTO : IsTrip s.heap TO a b c)
    (h1 : s.heap.IsListIter i1 l1 k1) (h2 : s.heap.IsListIter i2 l2 k2) (h3 : s.heap.IsListIter i3 l3 k3) (hl1 : s.heap.IsList l1 xs) (hl2 : s.heap.IsList l2 ys) (hl3 : s.heap.IsList l3 zs)
    (hend : xs[k1]? = none ∨ ys[k2]? = none ∨ zs[k3]? = none)
    (hQ : ∀ h', (∀ c o, c ≠ z → c ≠ TO → c ≠ i1 → c ≠ i2 → c ≠ i3 → s.heap.get? c = some o → h'.get? c = some o) → Q none { s with heap := h' }) : wpAny (model prog w) A (pyNext (.ref z)) Q E s := by
  have hT : s.TypeIs (.ref z) "zip" := ⟨_, hz, rfl⟩
  unfold pyNext
  refine wpAny_bind (wpAny_attempt (wpAny_callSpecial?_slot (name := Str.ofString "__next__") hT F.slot_zip_next
    (wpAny_call_entry F.slot_zip_next hT F.entry_zip_next (zip3_next_end hh D hz hTI hTO h1 h2 h3 hl1 hl2 hl3 hend fun h' e hk he => ?_) (F.args_zip_next_1 _))))
  obtain ⟨o, ho, hc⟩ := he
  refine wpAny_bind (wpAny_isInstance (T := "StopIteration") (b := true) ⟨o, ho, hc⟩ isSubtype_stop ?_)
  exact wpAny_pure (hQ _ hk)
end
abbrev z3H1 (h : Heap) (l1 : Addr) : Heap := h.push { cls := .type "list_iterator", data := .fields #[.ref l1, .int 0 0] }
abbrev z3H2 (h : Heap) (l1 l2 : Addr) : Heap := (z3H1 h l1).push { cls := .type "list_iterator", data := .fields #[.ref l2, .int 0 0] }
abbrev z3H3 (h : Heap) (l1 l2 l3 : Addr) : Heap := (z3H2 h l1 l2).push { cls := .type "list_iterator", data := .fields #[.ref l3, .int 0 0] }
abbrev z3H4 (h : Heap) (l1 l2 l3 : Addr) : Heap := (z3H3 h l1 l2 l3).push { cls := .type "tuple", data := .seq #[.ref h.objs.size, .ref (z3H1 h l1).objs.size, .ref (z3H2 h l1 l2).objs.size] }
abbrev z3H5 (h : Heap) (l1 l2 l3 : Addr) : Heap := (z3H4 h l1 l2 l3).push { cls := .type "tuple", data := .seq #[.none, .none, .none] }
abbrev z3H6 (h : Heap) (l1 l2 l3 : Addr) : Heap := (z3H5 h l1 l2 l3).push { cls := .type "zip", data := .fields #[.none, .bool false, .bool false, .ref (z3H3 h l1 l2 l3).objs.size, .ref (z3H4 h l1 l2 l3).objs.size] }
theorem meets_zip3_new (l1 l2 l3 : Addr) (xs ys zs : Array Value) :
    Meets (Builtin.«zip.__new__» ⟨[.type "zip", .ref l1, .ref l2, .ref l3], []⟩) (fun _ R s => s.heap.IsList l1 xs ∧ s.heap.IsList l2 ys ∧ s.heap.IsList l3 zs ∧
      R (.ok (.ret (.ref (z3H5 s.heap l1 l2 l3).objs.size))) { s with heap := z3H6 s.heap l1 l2 l3 }) :=
  .of_wp fun prog w A R s h => by
    obtain ⟨hp, g, d, tk, os⟩ := s; obtain ⟨hl1, hl2, hl3, h⟩ := h
    have hsub := sub_zip
    have hL1 : Heap.IsList (Shared.heap ⟨hp, g, d, tk, os⟩) l1 xs := hl1
    have hL2 : Heap.IsList (Shared.heap ⟨hp.push { cls := .type "list_iterator", data := .fields #[.ref l1, .int 0 0] }, g, d, tk, os⟩) l2 ys := Heap.IsList.push hl2 _
    have hL3 : Heap.IsList (Shared.heap ⟨(hp.push { cls := .type "list_iterator", data := .fields #[.ref l1, .int 0 0] }).push { cls := .type "list_iterator", data := .fields #[.ref l2, .int 0 0] }, g, d, tk, os⟩) l3 zs := Heap.IsList.push (Heap.IsList.push hl3 _) _
    wp_walk using wpAny_pyIter_list hL1, wpAny_pyIter_list hL2, wpAny_pyIter_list hL3
    exact ⟨_, rfl, h⟩
section
variable {prog : Program} {w : World} {A : Around} {E : Value → Shared → Prop} {s : Shared}
theorem call_zip_3 {l1 l2 l3 : Addr} {xs ys zs : Array Value} {Q : Value → Shared → Prop} (hl1 : s.heap.IsList l1 xs) (hl2 : s.heap.IsList l2 ys) (hl3 : s.heap.IsList l3 zs)
    (h : ∀ h', IsZip h' (s.heap.objs.size + 5) (s.heap.objs.size + 3) (s.heap.objs.size + 4) .none → IsTrip h' (s.heap.objs.size + 3) (.ref s.heap.objs.size) (.ref (s.heap.objs.size + 1)) (.ref (s.heap.objs.size + 2)) →
      IsTrip h' (s.heap.objs.size + 4) .none .none .none → h'.IsListIter s.heap.objs.size l1 0 → h'.IsListIter (s.heap.objs.size + 1) l2 0 → h'.IsListIter (s.heap.objs.size + 2) l3 0 → h'.objs.size = s.heap.objs.size + 6 →
      (∀ c o, s.heap.get? c = some o → h'.get? c = some o) → Q (.ref (s.heap.objs.size + 5)) { s with heap := h' }) :
    wpAny (model prog w) A (call (.type "zip") [.ref l1, .ref l2, .ref l3]) Q E s := by
  refine callType_new F.called_zip (by decide) (typeCall_zip_3 _ _ _) (newCall_zip_3 _ _ _) (fun obj => args_object_init_4 obj _ _ _) F.entry_zip_new
    (meets_zip3_new l1 l2 l3 xs ys zs) ⟨hl1, hl2, hl3, ?_⟩
  have z1 : (z3H1 s.heap l1).objs.size = s.heap.objs.size + 1 := Heap.size_push ..
  have z2 : (z3H2 s.heap l1 l2).objs.size = s.heap.objs.size + 2 := by rw [Heap.size_push, z1]
  have z3 : (z3H3 s.heap l1 l2 l3).objs.size = s.heap.objs.size + 3 := by rw [Heap.size_push, z2]
  have z4 : (z3H4 s.heap l1 l2 l3).objs.size = s.heap.objs.size + 4 := by rw [Heap.size_push, z3]
  have z5 : (z3H5 s.heap l1 l2 l3).objs.size = s.heap.objs.size + 5 := by rw [Heap.size_push, z4]
  have z6 : (z3H6 s.heap l1 l2 l3).objs.size = s.heap.objs.size + 6 := by rw [Heap.size_push, z5]
  have p1 : ∀ {h : Heap} {b : Addr} {o o' : Obj}, h.get? b = some o → (h.push o').get? b = some o := fun e => Heap.get?_push_of_some _ e
  have g6 : (z3H6 s.heap l1 l2 l3).get? (z3H5 s.heap l1 l2 l3).objs.size = some _ := Heap.get?_push_size _ rfl
  have g5 : (z3H6 s.heap l1 l2 l3).get? (z3H4 s.heap l1 l2 l3).objs.size = some _ := p1 (Heap.get?_push_size _ rfl)
  have g4 : (z3H6 s.heap l1 l2 l3).get? (z3H3 s.heap l1 l2 l3).objs.size = some _ := p1 (p1 (Heap.get?_push_size _ rfl))
  have g3 : (z3H6 s.heap l1 l2 l3).get? (z3H2 s.heap l1 l2).objs.size = some _ := p1 (p1 (p1 (Heap.get?_push_size _ rfl)))
  have g2 : (z3H6 s.heap l1 l2 l3).get? (z3H1 s.heap l1).objs.size = some _ := p1 (p1 (p1 (p1 (Heap.get?_push_size _ rfl))))
  have g1 : (z3H6 s.heap l1 l2 l3).get? s.heap.objs.size = some _ := p1 (p1 (p1 (p1 (p1 (Heap.get?_push_size _ rfl)))))
  show _ ∧ _
  rw [z3, z4, z5] at g6
  rw [z4] at g5
  rw [z1, z2, z3] at g4
  rw [z2] at g3
  rw [z1] at g2
  rw [z5]
  exact ⟨⟨_, g6, rfl⟩, h _ g6 g4 g5 ⟨_, g1, rfl, rfl⟩ ⟨_, g2, rfl, rfl⟩ ⟨_, g3, rfl, rfl⟩ z6 fun c o x => p1 (p1 (p1 (p1 (p1 (p1 x)))))⟩
end
/-- the lists at a, b and c as they stand at each turn, the items in new tuples -/
def Itz3 (K : PySem.W.Frag) (a b c : Addr) : It :=
  ⟨fun i H => ∃ (xs ys zs : List V) (x y z : V), SqL K H a xs ∧ SqL K H b ys ∧ SqL K H c zs ∧ xs[i]? = some x ∧ ys[i]? = some y ∧ zs[i]? = some z,
    fun i H v H' => ∃ T x y z, v = .ref T ∧ H T = Option.none ∧ H' = upd H T (.tup [x, y, z]) ∧ (∀ xs, SqL K H a xs → xs[i]? = some x) ∧ (∀ ys, SqL K H b ys → ys[i]? = some y) ∧ ∀ zs, SqL K H c zs → zs[i]? = some z,
    fun i H => ∃ xs ys zs : List V, SqL K H a xs ∧ SqL K H b ys ∧ SqL K H c zs ∧ (xs.length ≤ i ∨ ys.length ≤ i ∨ zs.length ≤ i)⟩
theorem lt_ne {x n k : Nat} (h : x < n) : ¬ x = n + k := by omega
theorem turn_zip3 {P : Program} {w : World} {K : PySem.W.Frag} {elts : List Expr} {kk : Nat} {tpos : Pos} {a b c z TI TO i1 i2 i3 : Addr} (D : ZipApart3 z TI TO i1 i2 i3 a b c) :
    Turn P w K (.Tuple elts kk tpos) (Itz3 K a b c) [z, TI, TO, i1, i2, i3] z (fun i h => IsZip h z TI TO .none ∧ IsTrip h TI (.ref i1) (.ref i2) (.ref i3) ∧ (∃ x y u, IsTrip h TO x y u) ∧ h.IsListIter i1 a i ∧ h.IsListIter i2 b i ∧ h.IsListIter i3 c i) where
  mem := by simp
  obj := fun i h st q hq => by
    obtain ⟨hz, hTI, ⟨x, y, u, hTO⟩, ⟨o1, e1, _, d1⟩, ⟨o2, e2, _, d2⟩, ⟨o3, e3, _, d3⟩⟩ := st
    have e' : q = z ∨ q = TI ∨ q = TO ∨ q = i1 ∨ q = i2 ∨ q = i3 := by simpa using hq
    rcases e' with q | q | q | q | q | q
    · rw [q]; exact ⟨_, hz, fun v q => nomatch q⟩
    · rw [q]; exact ⟨_, hTI, fun v q => nomatch q⟩
    · rw [q]; exact ⟨_, hTO, fun v q => nomatch q⟩
    · rw [q]; exact ⟨o1, e1, fun v q => by rw [d1] at q; cases q⟩
    · rw [q]; exact ⟨o2, e2, fun v q => by rw [d2] at q; cases q⟩
    · rw [q]; exact ⟨o3, e3, fun v q => by rw [d3] at q; cases q⟩
  keep := fun i h h' st k => by
    obtain ⟨hz, hTI, ⟨x, y, u, hTO⟩, h1, h2, h3⟩ := st
    exact ⟨k z (by simp) _ hz, k TI (by simp) _ hTI, ⟨x, y, u, k TO (by simp) _ hTO⟩, h1.at fun o q => k i1 (by simp) o q, h2.at fun o q => k i2 (by simp) o q, h3.at fun o q => k i3 (by simp) o q⟩
  item := by
    intro X hP hw hK hc i pins s σ H E I hf st hg
    subst hP hw hK
    obtain ⟨hz, hTI, ⟨x0, y0, u0, hTO⟩, h1, h2, h3⟩ := st
    obtain ⟨xs, ys, zs, x, y, zz, hqx, hqy, hqz, hx, hy, hzz⟩ := hg
    obtain ⟨its, rv, p, _⟩ := I.list hqx
    obtain ⟨its2, rv2, p2, _⟩ := I.list hqy
    obtain ⟨its3, rv3, p3, _⟩ := I.list hqz
    obtain ⟨u, hu, ru⟩ := rv.get hx
    obtain ⟨u2, hu2, ru2⟩ := rv2.get hy
    obtain ⟨u3, hu3, ru3⟩ := rv3.get hzz
    have hzl : z < s.heap.objs.size := Heap.lt_size hz
    have D' := D
    obtain ⟨nd, a1, a2, a3⟩ := D'
    simp only [List.nodup_cons, List.mem_cons, List.not_mem_nil, or_false, not_or, not_false_eq_true, List.nodup_nil, and_true] at nd
    obtain ⟨⟨zTI, zTO, z1, z2, z3⟩, ⟨TITO, TI1, TI2, TI3⟩, ⟨TO1, TO2, TO3⟩, ⟨i12, i13⟩, i23⟩ := nd
    refine pyNext_zip3_item D hz hTI hTO h1 h2 h3 p.isList p2.isList p3.isList (x := u) (y := u2) (u := u3) (by simpa using hu) (by simpa using hu2) (by simpa using hu3) fun h' z' TO' h1' h2' h3' hT hsz hk => ?_
    refine ⟨_, rfl, wpAny_letOwnedTupleGo_zip (s := { s with heap := h' }) z' fun h'' z'' sb => ?_⟩
    have hT2 : h''.get? s.heap.objs.size = some { cls := .type "tuple", data := .seq #[u, u2, u3] } := (sb.2 _ (Nat.ne_of_gt hzl)).trans hT
    have new : ObjOk X.prog X.w (upd H s.heap.objs.size (.tup [x, y, zz])) h'' s.heap.objs.size (.tup [x, y, zz]) :=
      ⟨by show 3 ≤ sizeLine; decide, [u, u2, u3], .cons ru (.cons ru2 (.cons ru3 .nil)), ⟨_, hT2, rfl, _, rfl⟩⟩
    have I1 : Inv X pins σ (upd H s.heap.objs.size (.tup [x, y, zz])) { s with heap := h'' } :=
      I.turnedNew (t' := s.toks) (ch := [z, TI, TO, i1, i2, i3]) (fun c o hb q => (sb.2 c (fun q' => hb (by simp [q']))).trans (hk c o (fun q' => hb (by simp [q'])) (fun q' => hb (by simp [q'])) (fun q' => hb (by simp [q'])) (fun q' => hb (by simp [q'])) (fun q' => hb (by simp [q'])) q)) hf (Nat.le_refl _) new
    refine ⟨.ref s.heap.objs.size, _, I1, rfl, ⟨_, x, y, zz, rfl, I.hok.fresh (Nat.le_refl _), rfl, fun l hl => by rw [I.list_inj hl hqx]; exact hx, fun l hl => by rw [I.list_inj hl hqy]; exact hy, fun l hl => by rw [I.list_inj hl hqz]; exact hzz⟩, ⟨z'', ?_, ⟨u, u2, u3, ?_⟩, ?_, ?_, ?_⟩, fun c hcm => ?_⟩
    · exact (sb.2 _ (Ne.symm zTI)).trans (hk _ _ (Ne.symm zTI) TITO TI1 TI2 TI3 hTI)
    · exact (sb.2 _ (Ne.symm zTO)).trans TO'
    · exact h1'.at fun o q => (sb.2 _ (Ne.symm z1)).trans q
    · exact h2'.at fun o q => (sb.2 _ (Ne.symm z2)).trans q
    · exact h3'.at fun o q => (sb.2 _ (Ne.symm z3)).trans q
    · have hlt : c < s.heap.objs.size := by
        have e' : c = z ∨ c = TI ∨ c = TO ∨ c = i1 ∨ c = i2 ∨ c = i3 := by simpa using hcm
        rcases e' with q | q | q | q | q | q
        · rw [q]; exact hzl
        · rw [q]; exact Heap.lt_size hTI
        · rw [q]; exact Heap.lt_size hTO
        · rw [q]; obtain ⟨_, e1, _⟩ := h1; exact Heap.lt_size e1
        · rw [q]; obtain ⟨_, e2, _⟩ := h2; exact Heap.lt_size e2
        · rw [q]; obtain ⟨_, e3, _⟩ := h3; exact Heap.lt_size e3
      rw [upd_ne (Nat.ne_of_lt hlt)]
      exact (hf c hcm).1
  done := by
    intro X hP hw hK hc i pins s σ H E I hf st hg
    subst hP hw hK
    obtain ⟨hz, hTI, ⟨x0, y0, u0, hTO⟩, h1, h2, h3⟩ := st
    obtain ⟨xs, ys, zs, hqx, hqy, hqz, hend⟩ := hg
    obtain ⟨its, rv, p, _⟩ := I.list hqx
    obtain ⟨its2, rv2, p2, _⟩ := I.list hqy
    obtain ⟨its3, rv3, p3, _⟩ := I.list hqz
    have l1 := rv.length
    have l2 := rv2.length
    have l3 := rv3.length
    have he : its.toArray[i]? = none ∨ its2.toArray[i]? = none ∨ its3.toArray[i]? = none := by
      rcases hend with q | q | q
      · exact .inl (by simp; omega)
      · exact .inr (.inl (by simp; omega))
      · exact .inr (.inr (by simp; omega))
    exact pyNext_zip3_end (I.ok.hd hc) D hz hTI hTO h1 h2 h3 p.isList p2.isList p3.isList he fun h' hk => ⟨rfl, I.turnedL (t' := s.toks) (ch := [z, TI, TO, i1, i2, i3]) (fun c o hb q =>
      hk c o (fun q' => hb (by simp [q'])) (fun q' => hb (by simp [q'])) (fun q' => hb (by simp [q'])) (fun q' => hb (by simp [q'])) (fun q' => hb (by simp [q'])) q) hf⟩
  self := fun A i s Q E st h => wpAny_pyIter_zip st.1 h
def iZip3 (K : PySem.W.Frag) (ta : TA) : TI := fun σ H R => ta σ H fun vs H1 => ∃ a b c xs ys zs, vs = [.ref a, .ref b, .ref c] ∧ SqL K H1 a xs ∧ SqL K H1 b ys ∧ SqL K H1 c zs ∧ R (Itz3 K a b c) H1
theorem pi_zip3 {X : Cx} {e e2 e3 : Expr} {ta : TA} {p pos tpos : Pos} {elts : List Expr} {kk : Nat} (hg : Gl X "zip") (hm : X.mg "zip" = Option.none) (ha : PA X [e, e2, e3] ta)
    (hs : starEach [e, e2, e3] X.env = (false, eval e X.env) :: starEach [e2, e3] X.env := by rfl) (hpl : (backTo pos (starEach [e2, e3] X.env)).any (·.1) = false := by rfl) :
    PI X (.Tuple elts kk tpos) (.Call (.Name "zip" p) [e, e2, e3] [] pos) (iZip3 X.K ta) := by
  intro pins s σ H R I h
  refine Call_ (ld_blt I hg hm boot_zip5 (PyProof.Rows.callWith_type1 (thn (ha pos pins s σ H _ I h) fun us s1 ⟨vs, H1, I1, r1, q1⟩ => ?_) hs hpl))
  obtain ⟨a, b, c, xs, ys, zs, ex, hqx, hqy, hqz, q⟩ := q1
  subst ex
  cases r1 with
  | cons r rr =>
    cases rr with
    | cons r' rr =>
      cases rr with
      | cons r'' rr =>
        cases rr
        cases r
        cases r'
        cases r''
        obtain ⟨its, rv, p1, _⟩ := I1.list hqx
        obtain ⟨its2, rv2, p2, _⟩ := I1.list hqy
        obtain ⟨its3, rv3, p3, _⟩ := I1.list hqz
        have la : a < s1.heap.objs.size := p1.lt
        have lb : b < s1.heap.objs.size := p2.lt
        have lc : c < s1.heap.objs.size := p3.lt
        refine call_zip_3 p1.isList p2.isList p3.isList fun h' hz hTI hTO h1 h2 h3 hsz hk => wpAny_pyIter_zip hz ?_
        have I2 : Inv X pins σ H1 { s1 with heap := h' } := I1.kept (t' := s1.toks) hk
        have D : ZipApart3 (s1.heap.objs.size + 5) (s1.heap.objs.size + 3) (s1.heap.objs.size + 4) s1.heap.objs.size (s1.heap.objs.size + 1) (s1.heap.objs.size + 2) a b c := by
          refine ⟨?_, ?_, ?_, ?_⟩
          · simp
          · simp only [List.mem_cons, List.not_mem_nil, or_false, not_or]
            exact ⟨lt_ne la, lt_ne la, Nat.ne_of_lt la, lt_ne la, lt_ne la⟩
          · simp only [List.mem_cons, List.not_mem_nil, or_false, not_or]
            exact ⟨lt_ne lb, lt_ne lb, Nat.ne_of_lt lb, lt_ne lb, lt_ne lb⟩
          · simp only [List.mem_cons, List.not_mem_nil, or_false, not_or]
            exact ⟨lt_ne lc, lt_ne lc, Nat.ne_of_lt lc, lt_ne lc, lt_ne lc⟩
        refine ⟨s1.heap.objs.size + 5, [s1.heap.objs.size + 5, s1.heap.objs.size + 3, s1.heap.objs.size + 4, s1.heap.objs.size, s1.heap.objs.size + 1, s1.heap.objs.size + 2], _, _, H1, rfl, I2, turn_zip3 D, ⟨hz, hTI, ⟨_, _, _, hTO⟩, h1, h2, h3⟩, fun c hcm => ?_, q⟩
        have hle : s1.heap.objs.size ≤ c := by
          have e' : c = s1.heap.objs.size + 5 ∨ c = s1.heap.objs.size + 3 ∨ c = s1.heap.objs.size + 4 ∨ c = s1.heap.objs.size ∨ c = s1.heap.objs.size + 1 ∨ c = s1.heap.objs.size + 2 := by simpa using hcm
          rcases e' with z | z | z | z | z | z
          · rw [z]; exact Nat.le_add_right _ _
          · rw [z]; exact Nat.le_add_right _ _
          · rw [z]; exact Nat.le_add_right _ _
          · rw [z]; exact Nat.le_refl _
          · rw [z]; exact Nat.le_add_right _ _
          · rw [z]; exact Nat.le_add_right _ _
        exact I1.fpOk hle (I1.hok.fresh hle)
end Hs
end
section
set_option Elab.async false
set_option linter.all false
set_option maxRecDepth 100000
set_option maxHeartbeats 2000000
namespace Hs
open PySem PySem.Spec PyProof.Rows L2
/-! ### rules beside the layer's -/
section
variable {X : Cx}
def CShl (i j : Int) : Prop := 0 ≤ j ∧ j ≤ 1000 ∧ i.natAbs < 2 ^ 1000
theorem op_shlB : OpR X (binaryOp .LShift) (rI CShl fun i j => .int (i * 2 ^ j.toNat)) := opI fun _ j _ _ _ _ _ hc q => by
  have hb := intBits_le hc.2.2
  have h1 := hc.2.1
  exact lshift_int hc.1 (by
    have : (Builtin.Int.intBits _ : Int) ≤ 1000 := Int.ofNat_le.mpr hb
    have e : (2 : Int) ^ 27 = 134217728 := by decide
    omega) q
theorem mt_bits : MtR X "int.bit_length" (fun x xs H Q => ∃ i : Int, x = .int i ∧ xs = [] ∧ Q (.int (Builtin.Int.intBits i)) H) := by
  intro pins s σ H x xs v us Q I rx rs h
  obtain ⟨i, rfl, rfl, q⟩ := h
  obtain ⟨t, rfl⟩ := rx
  have hus := rs.zero
  subst hus
  exact call_int_bit_length ⟨.int _, H, I.tok _, ⟨_, rfl⟩, q⟩
def rGetL (K : PySem.W.Frag) : V → V → Hp → VK → Prop := fun x y H Q => ∃ p xs v, ∃ j : Nat, x = .ref p ∧ y = .int (j : Int) ∧ SqL K H p xs ∧ xs[j]? = some v ∧ Q v H
theorem get_list : PGet X (rGetL X.K) := by
  intro pins s σ H o i ov iv Q I ro ri h
  obtain ⟨p, xs, v, j, rfl, rfl, hq, he, q⟩ := h
  cases ro
  obtain ⟨t, rfl⟩ := ri
  obtain ⟨its, r, pl, hz⟩ := I.list hq
  obtain ⟨w, ew, rw'⟩ := r.get he
  have hl := r.length
  have hn := line63
  have hj := (List.getElem?_eq_some_iff.mp he).1
  exact wpAny_getItem_list pl.isList (by omega) (by omega) (by simpa using ew) ⟨v, H, I, rw', q⟩
end
/-! ### the forms one uses -/
theorem take_succ {α : Type} {l : List α} {i : Nat} {x : α} (h : l[i]? = some x) : l.take (i + 1) = l.take i ++ [x] := by
  rw [List.take_add_one, h]; rfl
section
variable {K : PySem.W.Frag}
/-- [f(x) for x in a list], f pure -/
theorem lc_list_pure {a D : Addr} {xs : List V} {te : TE} {i : Nat} {vs : List Nat} {σ : L2.St} {H1 : Hp} {Qd : Hp → Prop} {f : V → V} (ha : SqL K H1 a xs) (hD : H1 D = Option.none) (hz : xs.length ≤ sizeLine)
    (hw : ∀ x, wipe ((wipe σ vs).set i (some x)) vs = wipe σ vs) (hte : ∀ x, x ∈ xs → ∀ H Q, Same H1 H → Q (f x) H → te ((wipe σ vs).set i (some x)) H Q)
    (hq : ∀ H', Same H1 H' → H' D = some (.lst (xs.map f)) → Qd H') :
    ∃ W : Nat → Nat → Hp → Prop, (∃ m, W 0 m (upd H1 D (.lst []))) ∧ ∀ t m H, W t m H →
      ((Itl K a).stop t H ∧ Qd H) ∨ ((Itl K a).go t H ∧ ∃ Nx : Hp → Prop, (∀ H', Nx H' → ∃ m', m' < m ∧ W (t + 1) m' H') ∧ ∀ x H', (Itl K a).yld t H x H' → gName i x (wipe σ vs) H' fun σ2 H2 => wipe σ2 vs = wipe σ vs ∧ tYes σ2 H2 fun b H3 =>
        if b = true then te σ2 H3 fun y H4 => ∃ acc, H4 D = some (.lst acc) ∧ acc.length < sizeLine ∧ Nx (upd H4 D (.lst (acc ++ [y]))) else Nx H3) := by
  refine lc_list (K := K) (a := a) (xs := xs) (fun t H => Same H1 H ∧ H D = some (.lst ((xs.map f).take t))) ⟨same_new hD, upd_same⟩ (fun t H _ h => h.1.seq ha) (fun t x H hx h => ⟨hw x, ?_⟩) fun H h => hq H h.1 ?_
  · have hdum : True := trivial
    have hl := (List.getElem?_eq_some_iff.mp hx).1
    refine hte x (List.mem_of_getElem? hx) H _ h.1 ⟨_, h.2, ?_, fun b o e => ?_, ?_⟩
    · rw [List.length_take, List.length_map]; omega
    · rw [upd_ne (ne_of_none e hD)]; exact h.1 b o e
    · rw [upd_same, take_succ (x := f x) (by rw [List.getElem?_map, hx]; rfl)]
  · have := h.2
    rw [List.take_of_length_le (by rw [List.length_map]; exact Nat.le_refl _)] at this
    exact this
/-- [f(x, y) for x, y in zip(a, b)], f pure -/
theorem lc_zip_pure {a b D : Addr} {xs ys : List V} {te : TE} {i j : Nat} {vs : List Nat} {σ : L2.St} {H1 : Hp} {Qd : Hp → Prop} {f : V → V → V} (ha : SqL K H1 a xs) (hb : SqL K H1 b ys) (hD : H1 D = Option.none) (hz : xs.length ≤ sizeLine ∨ ys.length ≤ sizeLine)
    (hw : ∀ x y, wipe (((wipe σ vs).set i (some x)).set j (some y)) vs = wipe σ vs) (hte : ∀ x y, x ∈ xs → y ∈ ys → ∀ H Q, Same H1 H → Q (f x y) H → te (((wipe σ vs).set i (some x)).set j (some y)) H Q)
    (hq : ∀ H', Same H1 H' → H' D = some (.lst (List.zipWith f xs ys)) → Qd H') :
    ∃ W : Nat → Nat → Hp → Prop, (∃ m, W 0 m (upd H1 D (.lst []))) ∧ ∀ t m H, W t m H →
      ((Itz K a b).stop t H ∧ Qd H) ∨ ((Itz K a b).go t H ∧ ∃ Nx : Hp → Prop, (∀ H', Nx H' → ∃ m', m' < m ∧ W (t + 1) m' H') ∧ ∀ x H', (Itz K a b).yld t H x H' → gTup K 2 (gCons (gName i) (gCons (gName j) gNil)) x (wipe σ vs) H' fun σ2 H2 => wipe σ2 vs = wipe σ vs ∧ tYes σ2 H2 fun b H3 =>
        if b = true then te σ2 H3 fun y H4 => ∃ acc, H4 D = some (.lst acc) ∧ acc.length < sizeLine ∧ Nx (upd H4 D (.lst (acc ++ [y]))) else Nx H3) := by
  refine ⟨fun t m H => m = min xs.length ys.length - t ∧ t ≤ min xs.length ys.length ∧ Same H1 H ∧ H D = some (.lst ((List.zipWith f xs ys).take t)), ⟨_, rfl, Nat.zero_le _, same_new hD, upd_same⟩, ?_⟩
  rintro t m H ⟨rfl, ht, s1, hDt⟩
  by_cases hlt : t < min xs.length ys.length
  · have hx : xs[t]? = some xs[t] := List.getElem?_eq_getElem (by omega)
    have hy : ys[t]? = some ys[t] := List.getElem?_eq_getElem (by omega)
    refine .inr ⟨⟨xs, ys, _, _, s1.seq ha, s1.seq hb, hx, hy⟩, fun H' => Same H1 H' ∧ H' D = some (.lst ((List.zipWith f xs ys).take (t + 1))), fun H' h => ⟨min xs.length ys.length - (t + 1), by omega, rfl, hlt, h.1, h.2⟩, ?_⟩
    rintro v H' ⟨T, x, y, rfl, hT, rfl, ex, ey⟩
    have ex := ex xs (s1.seq ha)
    have ey := ey ys (s1.seq hb)
    have sT : Same H (upd H T (.tup [x, y])) := same_new hT
    refine ⟨T, [x, y], rfl, SqT.of upd_same, rfl, x, [y], rfl, y, [], rfl, rfl, hw x y, ?_⟩
    have hDT : (upd H T (.tup [x, y])) D = some (.lst ((List.zipWith f xs ys).take t)) := sT _ _ hDt
    refine hte x y (List.mem_of_getElem? ex) (List.mem_of_getElem? ey) _ _ (s1.trans sT) ⟨_, hDT, ?_, fun b o e => ?_, ?_⟩
    · rw [List.length_take, List.length_zipWith]; omega
    · rw [upd_ne (ne_of_none e hD)]; exact sT _ _ (s1 b o e)
    · rw [upd_same, take_succ (x := f x y) (by rw [List.getElem?_zipWith, ex, ey])]
  · have et : t = min xs.length ys.length := by omega
    refine .inl ⟨⟨xs, ys, s1.seq ha, s1.seq hb, by omega⟩, hq H s1 ?_⟩
    rw [List.take_of_length_le (by rw [List.length_zipWith]; omega)] at hDt
    exact hDt
theorem lc_zip3_pure {a b c D : Addr} {xs ys zs : List V} {te : TE} {i j k : Nat} {vs : List Nat} {σ : L2.St} {H1 : Hp} {Qd : Hp → Prop} {f : V → V → V → V} (ha : SqL K H1 a xs) (hb : SqL K H1 b ys) (hc : SqL K H1 c zs) (hD : H1 D = Option.none) (hz : xs.length ≤ sizeLine)
    (hw : ∀ x y z, wipe ((((wipe σ vs).set i (some x)).set j (some y)).set k (some z)) vs = wipe σ vs) (hte : ∀ x y z, x ∈ xs → y ∈ ys → z ∈ zs → ∀ H Q, Same H1 H → Q (f x y z) H → te ((((wipe σ vs).set i (some x)).set j (some y)).set k (some z)) H Q)
    (hq : ∀ H', Same H1 H' → H' D = some (.lst (zipW3 f xs ys zs)) → Qd H') :
    ∃ W : Nat → Nat → Hp → Prop, (∃ m, W 0 m (upd H1 D (.lst []))) ∧ ∀ t m H, W t m H →
      ((Itz3 K a b c).stop t H ∧ Qd H) ∨ ((Itz3 K a b c).go t H ∧ ∃ Nx : Hp → Prop, (∀ H', Nx H' → ∃ m', m' < m ∧ W (t + 1) m' H') ∧ ∀ x H', (Itz3 K a b c).yld t H x H' → gTup K 3 (gCons (gName i) (gCons (gName j) (gCons (gName k) gNil))) x (wipe σ vs) H' fun σ2 H2 => wipe σ2 vs = wipe σ vs ∧ tYes σ2 H2 fun b H3 =>
        if b = true then te σ2 H3 fun y H4 => ∃ acc, H4 D = some (.lst acc) ∧ acc.length < sizeLine ∧ Nx (upd H4 D (.lst (acc ++ [y]))) else Nx H3) := by
  refine ⟨fun t m H => m = min xs.length (min ys.length zs.length) - t ∧ t ≤ min xs.length (min ys.length zs.length) ∧ Same H1 H ∧ H D = some (.lst ((zipW3 f xs ys zs).take t)), ⟨_, rfl, Nat.zero_le _, same_new hD, upd_same⟩, ?_⟩
  rintro t m H ⟨rfl, ht, s1, hDt⟩
  by_cases hlt : t < min xs.length (min ys.length zs.length)
  · have hx : xs[t]? = some xs[t] := List.getElem?_eq_getElem (by omega)
    have hy : ys[t]? = some ys[t] := List.getElem?_eq_getElem (by omega)
    have hz' : zs[t]? = some zs[t] := List.getElem?_eq_getElem (by omega)
    refine .inr ⟨⟨xs, ys, zs, _, _, _, s1.seq ha, s1.seq hb, s1.seq hc, hx, hy, hz'⟩, fun H' => Same H1 H' ∧ H' D = some (.lst ((zipW3 f xs ys zs).take (t + 1))), fun H' h => ⟨min xs.length (min ys.length zs.length) - (t + 1), by omega, rfl, hlt, h.1, h.2⟩, ?_⟩
    rintro v H' ⟨T, x, y, z, rfl, hT, rfl, ex, ey, ez⟩
    have ex := ex xs (s1.seq ha)
    have ey := ey ys (s1.seq hb)
    have ez := ez zs (s1.seq hc)
    have sT : Same H (upd H T (.tup [x, y, z])) := same_new hT
    refine ⟨T, [x, y, z], rfl, SqT.of upd_same, rfl, x, [y, z], rfl, y, [z], rfl, z, [], rfl, rfl, hw x y z, ?_⟩
    have hDT : (upd H T (.tup [x, y, z])) D = some (.lst ((zipW3 f xs ys zs).take t)) := sT _ _ hDt
    refine hte x y z (List.mem_of_getElem? ex) (List.mem_of_getElem? ey) (List.mem_of_getElem? ez) _ _ (s1.trans sT) ⟨_, hDT, ?_, fun b o e => ?_, ?_⟩
    · rw [List.length_take, zipW3_len]; omega
    · rw [upd_ne (ne_of_none e hD)]; exact sT _ _ (s1 b o e)
    · rw [upd_same, take_succ (x := f x y z) (zipW3_get f ex ey ez)]
  · have et : t = min xs.length (min ys.length zs.length) := by omega
    refine .inl ⟨⟨xs, ys, zs, s1.seq ha, s1.seq hb, s1.seq hc, by omega⟩, hq H s1 ?_⟩
    rw [List.take_of_length_le (by rw [zipW3_len]; omega)] at hDt
    exact hDt
/-- for i, x in enumerate(a list) -/
theorem for_enum {a : Addr} {xs : List V} {g : TG} {tb : TS} {D : Ends} {σ : L2.St} {H : Hp} (Pv : Nat → L2.St → Hp → Prop) (h0 : Pv 0 σ H) (hl : ∀ i σ H, i ≤ xs.length → Pv i σ H → SqL K H a xs)
    (hs : ∀ i x σ H T, xs[i]? = some x → Pv i σ H → H T = Option.none → g (.ref T) σ (upd H T (.tup [.int (i : Nat), x])) fun σ2 H2 => tb { D with nx := Pv (i + 1), ct := Pv (i + 1), bk := D.nx } σ2 H2) (hd : ∀ σ H, Pv xs.length σ H → D.nx σ H) :
    ∃ W : Nat → Nat → L2.St → Hp → Prop, (∃ m, W 0 m σ H) ∧ ∀ i m σ H, W i m σ H →
      ((Ite K a).stop i H ∧ D.nx σ H) ∨ ((Ite K a).go i H ∧ ∃ N : L2.St → Hp → Prop, (∀ σ' H', N σ' H' → ∃ m', m' < m ∧ W (i + 1) m' σ' H') ∧ ∀ x H', (Ite K a).yld i H x H' → g x σ H' fun σ2 H2 => tb { D with nx := N, ct := N, bk := D.nx } σ2 H2) := by
  refine ⟨fun i m σ H => m = xs.length - i ∧ i ≤ xs.length ∧ Pv i σ H, ⟨xs.length, by simp, Nat.zero_le _, h0⟩, ?_⟩
  rintro i m σ H ⟨rfl, hi, p⟩
  have q := hl i σ H hi p
  by_cases hlt : i < xs.length
  · refine .inr ⟨⟨xs, xs[i], q, by simp [hlt]⟩, Pv (i + 1), fun σ' H' p' => ⟨xs.length - (i + 1), by omega, rfl, hlt, p'⟩, ?_⟩
    rintro v H' ⟨T, x, rfl, hT, rfl, ex⟩
    exact hs i x σ H T (ex xs q) p hT
  · have e : i = xs.length := by omega
    subst e
    exact .inl ⟨⟨xs, q, Nat.le_refl _⟩, hd σ H p⟩
end
end Hs
end
section
set_option Elab.async false
set_option linter.all false
set_option maxRecDepth 100000
set_option maxHeartbeats 2000000
namespace Hs
open PySem PySem.Spec PyProof.Rows L2
/-! ### the text by places -/
def top (i : Nat) : Stmt := PySem.Challenge.pw_honestslot_s01_answers.main.body.getD i (.Pass ⟨0, 0, 0, 0⟩)
abbrev s_Setup_init : Stmt := inClass (top 1) 0
abbrev s_Around_init : Stmt := inClass (top 19) 0
abbrev s_Around_note : Stmt := inClass (top 19) 1
abbrev s_Around_ask : Stmt := inClass (top 19) 2
abbrev s_Around_counters : Stmt := inClass (top 19) 3
abbrev s_Around_pay : Stmt := inClass (top 19) 4
abbrev s_Around_drop : Stmt := inClass (top 19) 5
abbrev s_Around_take : Stmt := inClass (top 19) 6
abbrev s_Around_show : Stmt := inClass (top 19) 7
abbrev s_Turn_init : Stmt := inClass (top 29) 0
abbrev s_Turn_usable : Stmt := inClass (top 29) 1
abbrev s_Turn_for_sale : Stmt := inClass (top 29) 2
abbrev s_Turn_can_be_bought : Stmt := inClass (top 29) 3
abbrev s_Turn_drop : Stmt := inClass (top 29) 4
abbrev s_Turn_pay_coin : Stmt := inClass (top 29) 5
abbrev s_Turn_pay_coins : Stmt := inClass (top 29) 6
abbrev s_Turn_pay_back : Stmt := inClass (top 29) 7
abbrev s_Turn_end : Stmt := inClass (top 29) 8
abbrev s_Reader_init : Stmt := inClass (top 37) 0
abbrev s_Reader_at_end : Stmt := inClass (top 37) 1
abbrev s_Reader_number : Stmt := inClass (top 37) 2
abbrev s_Reader_row : Stmt := inClass (top 37) 3
abbrev s_Machine_init : Stmt := inClass (top 38) 0
abbrev s_Machine_begin : Stmt := inClass (top 38) 1
abbrev s_all_within : Stmt := top 2
abbrev s_is_as_told : Stmt := top 3
abbrev s_only_nothing : Stmt := top 6
abbrev s_holds : Stmt := top 7
abbrev s_greatest : Stmt := top 8
abbrev s_raised : Stmt := top 9
abbrev s_with_kind : Stmt := top 10
abbrev s_tails : Stmt := top 21
abbrev s_payable : Stmt := top 22
abbrev s_most_coins : Stmt := top 23
abbrev s_payment_back : Stmt := top 24
abbrev s_since : Stmt := top 26
abbrev s_worth : Stmt := top 27
abbrev s_bits : Stmt := top 28
abbrev s_refusal : Stmt := top 39
abbrev s_start : Stmt := top 40
abbrev s_press : Stmt := top 41
abbrev s_sell : Stmt := top 42
abbrev s_cancel : Stmt := top 43
abbrev s_tick : Stmt := top 44
abbrev s_answer_call : Stmt := top 45
abbrev s_answers : Stmt := top 46
structure Ad where
  cSetup : Addr
  cAround : Addr
  cTurn : Addr
  cReader : Addr
  cMachine : Addr
  f_Setup_init : Addr
  d_Setup_init : FuncData
  f_Around_init : Addr
  d_Around_init : FuncData
  f_Around_note : Addr
  d_Around_note : FuncData
  f_Around_ask : Addr
  d_Around_ask : FuncData
  f_Around_counters : Addr
  d_Around_counters : FuncData
  f_Around_pay : Addr
  d_Around_pay : FuncData
  f_Around_drop : Addr
  d_Around_drop : FuncData
  f_Around_take : Addr
  d_Around_take : FuncData
  f_Around_show : Addr
  d_Around_show : FuncData
  f_Turn_init : Addr
  d_Turn_init : FuncData
  f_Turn_usable : Addr
  d_Turn_usable : FuncData
  f_Turn_for_sale : Addr
  d_Turn_for_sale : FuncData
  f_Turn_can_be_bought : Addr
  d_Turn_can_be_bought : FuncData
  f_Turn_drop : Addr
  d_Turn_drop : FuncData
  f_Turn_pay_coin : Addr
  d_Turn_pay_coin : FuncData
  f_Turn_pay_coins : Addr
  d_Turn_pay_coins : FuncData
  f_Turn_pay_back : Addr
  d_Turn_pay_back : FuncData
  f_Turn_end : Addr
  d_Turn_end : FuncData
  f_Reader_init : Addr
  d_Reader_init : FuncData
  f_Reader_at_end : Addr
  d_Reader_at_end : FuncData
  f_Reader_number : Addr
  d_Reader_number : FuncData
  f_Reader_row : Addr
  d_Reader_row : FuncData
  f_Machine_init : Addr
  d_Machine_init : FuncData
  f_Machine_begin : Addr
  d_Machine_begin : FuncData
  f_all_within : Addr
  d_all_within : FuncData
  f_is_as_told : Addr
  d_is_as_told : FuncData
  f_only_nothing : Addr
  d_only_nothing : FuncData
  f_holds : Addr
  d_holds : FuncData
  f_greatest : Addr
  d_greatest : FuncData
  f_raised : Addr
  d_raised : FuncData
  f_with_kind : Addr
  d_with_kind : FuncData
  f_tails : Addr
  d_tails : FuncData
  f_payable : Addr
  d_payable : FuncData
  f_most_coins : Addr
  d_most_coins : FuncData
  f_payment_back : Addr
  d_payment_back : FuncData
  f_since : Addr
  d_since : FuncData
  f_worth : Addr
  d_worth : FuncData
  f_bits : Addr
  d_bits : FuncData
  f_refusal : Addr
  d_refusal : FuncData
  f_start : Addr
  d_start : FuncData
  f_press : Addr
  d_press : FuncData
  f_sell : Addr
  d_sell : FuncData
  f_cancel : Addr
  d_cancel : FuncData
  f_tick : Addr
  d_tick : FuncData
  f_answer_call : Addr
  d_answer_call : FuncData
  f_answers : Addr
  d_answers : FuncData
structure Txt (K : PySem.W.Frag) (mg : Str → Option Value) (a : Ad) : Prop where
  cl_Setup : Cls K a.cSetup
  mk_Setup : Mk K a.cSetup a.f_Setup_init
  mg_Setup : mg "Setup" = some (.ref a.cSetup)
  no_Setup_kinds : NoAttr K a.cSetup "kinds"
  no_Setup_slots : NoAttr K a.cSetup "slots"
  no_Setup_most : NoAttr K a.cSetup "most"
  no_Setup_none : NoAttr K a.cSetup "none"
  no_Setup_value : NoAttr K a.cSetup "value"
  no_Setup_tube : NoAttr K a.cSetup "tube"
  no_Setup_price : NoAttr K a.cSetup "price"
  no_Setup_stock : NoAttr K a.cSetup "stock"
  no_Setup_in0 : NoAttr K a.cSetup "in0"
  no_Setup_out0 : NoAttr K a.cSetup "out0"
  no_Setup_fell0 : NoAttr K a.cSetup "fell0"
  cl_Around : Cls K a.cAround
  mk_Around : Mk K a.cAround a.f_Around_init
  mg_Around : mg "Around" = some (.ref a.cAround)
  no_Around_told : NoAttr K a.cAround "told"
  no_Around_heard : NoAttr K a.cAround "heard"
  no_Around_times : NoAttr K a.cAround "times"
  no_Around_asked : NoAttr K a.cAround "asked"
  cl_Turn : Cls K a.cTurn
  mk_Turn : Mk K a.cTurn a.f_Turn_init
  mg_Turn : mg "Turn" = some (.ref a.cTurn)
  no_Turn_machine : NoAttr K a.cTurn "machine"
  no_Turn_around : NoAttr K a.cTurn "around"
  no_Turn_value : NoAttr K a.cTurn "value"
  no_Turn_at_hand : NoAttr K a.cTurn "at_hand"
  no_Turn_left : NoAttr K a.cTurn "left"
  no_Turn_credit : NoAttr K a.cTurn "credit"
  cl_Reader : Cls K a.cReader
  mk_Reader : Mk K a.cReader a.f_Reader_init
  mg_Reader : mg "Reader" = some (.ref a.cReader)
  no_Reader_numbers : NoAttr K a.cReader "numbers"
  no_Reader_place : NoAttr K a.cReader "place"
  cl_Machine : Cls K a.cMachine
  mk_Machine : Mk K a.cMachine a.f_Machine_init
  mg_Machine : mg "Machine" = some (.ref a.cMachine)
  no_Machine_setup : NoAttr K a.cMachine "setup"
  no_Machine_stuck : NoAttr K a.cMachine "stuck"
  no_Machine_failed : NoAttr K a.cMachine "failed"
  F_Setup_init : Fun K "__init__" "Setup.__init__" s_Setup_init a.f_Setup_init a.d_Setup_init
  b_Setup_init : Binds K a.d_Setup_init (["self", "reader"]) []
  F_Around_init : Fun K "__init__" "Around.__init__" s_Around_init a.f_Around_init a.d_Around_init
  b_Around_init : Binds K a.d_Around_init (["self", "told"]) []
  F_Around_note : Fun K "note" "Around.note" s_Around_note a.f_Around_note a.d_Around_note
  b_Around_note : Binds K a.d_Around_note (["self", "numbers"]) []
  me_Around_note : Meth K a.cAround "note" a.f_Around_note
  F_Around_ask : Fun K "ask" "Around.ask" s_Around_ask a.f_Around_ask a.d_Around_ask
  b_Around_ask : Binds K a.d_Around_ask (["self", "function", "which"]) []
  me_Around_ask : Meth K a.cAround "ask" a.f_Around_ask
  F_Around_counters : Fun K "counters" "Around.counters" s_Around_counters a.f_Around_counters a.d_Around_counters
  b_Around_counters : Binds K a.d_Around_counters (["self", "function", "count"]) []
  me_Around_counters : Meth K a.cAround "counters" a.f_Around_counters
  F_Around_pay : Fun K "pay" "Around.pay" s_Around_pay a.f_Around_pay a.d_Around_pay
  b_Around_pay : Binds K a.d_Around_pay (["self", "kind"]) []
  me_Around_pay : Meth K a.cAround "pay" a.f_Around_pay
  F_Around_drop : Fun K "drop" "Around.drop" s_Around_drop a.f_Around_drop a.d_Around_drop
  b_Around_drop : Binds K a.d_Around_drop (["self", "slot"]) []
  me_Around_drop : Meth K a.cAround "drop" a.f_Around_drop
  F_Around_take : Fun K "take" "Around.take" s_Around_take a.f_Around_take a.d_Around_take
  b_Around_take : Binds K a.d_Around_take (["self", "kinds"]) []
  me_Around_take : Meth K a.cAround "take" a.f_Around_take
  F_Around_show : Fun K "show" "Around.show" s_Around_show a.f_Around_show a.d_Around_show
  b_Around_show : Binds K a.d_Around_show (["self", "amount", "slots"]) []
  me_Around_show : Meth K a.cAround "show" a.f_Around_show
  F_Turn_init : Fun K "__init__" "Turn.__init__" s_Turn_init a.f_Turn_init a.d_Turn_init
  b_Turn_init : Binds K a.d_Turn_init (["self", "machine", "told"]) []
  F_Turn_usable : Fun K "usable" "Turn.usable" s_Turn_usable a.f_Turn_usable a.d_Turn_usable
  b_Turn_usable : Binds K a.d_Turn_usable (["self"]) []
  me_Turn_usable : Meth K a.cTurn "usable" a.f_Turn_usable
  F_Turn_for_sale : Fun K "for_sale" "Turn.for_sale" s_Turn_for_sale a.f_Turn_for_sale a.d_Turn_for_sale
  b_Turn_for_sale : Binds K a.d_Turn_for_sale (["self"]) []
  me_Turn_for_sale : Meth K a.cTurn "for_sale" a.f_Turn_for_sale
  F_Turn_can_be_bought : Fun K "can_be_bought" "Turn.can_be_bought" s_Turn_can_be_bought a.f_Turn_can_be_bought a.d_Turn_can_be_bought
  b_Turn_can_be_bought : Binds K a.d_Turn_can_be_bought (["self", "slot", "change"]) []
  me_Turn_can_be_bought : Meth K a.cTurn "can_be_bought" a.f_Turn_can_be_bought
  F_Turn_drop : Fun K "drop" "Turn.drop" s_Turn_drop a.f_Turn_drop a.d_Turn_drop
  b_Turn_drop : Binds K a.d_Turn_drop (["self", "slot"]) []
  me_Turn_drop : Meth K a.cTurn "drop" a.f_Turn_drop
  F_Turn_pay_coin : Fun K "pay_coin" "Turn.pay_coin" s_Turn_pay_coin a.f_Turn_pay_coin a.d_Turn_pay_coin
  b_Turn_pay_coin : Binds K a.d_Turn_pay_coin (["self", "kind"]) []
  me_Turn_pay_coin : Meth K a.cTurn "pay_coin" a.f_Turn_pay_coin
  F_Turn_pay_coins : Fun K "pay_coins" "Turn.pay_coins" s_Turn_pay_coins a.f_Turn_pay_coins a.d_Turn_pay_coins
  b_Turn_pay_coins : Binds K a.d_Turn_pay_coins (["self", "payment"]) []
  me_Turn_pay_coins : Meth K a.cTurn "pay_coins" a.f_Turn_pay_coins
  F_Turn_pay_back : Fun K "pay_back" "Turn.pay_back" s_Turn_pay_back a.f_Turn_pay_back a.d_Turn_pay_back
  b_Turn_pay_back : Binds K a.d_Turn_pay_back (["self"]) []
  me_Turn_pay_back : Meth K a.cTurn "pay_back" a.f_Turn_pay_back
  F_Turn_end : Fun K "end" "Turn.end" s_Turn_end a.f_Turn_end a.d_Turn_end
  b_Turn_end : Binds K a.d_Turn_end (["self", "number"]) []
  me_Turn_end : Meth K a.cTurn "end" a.f_Turn_end
  F_Reader_init : Fun K "__init__" "Reader.__init__" s_Reader_init a.f_Reader_init a.d_Reader_init
  b_Reader_init : Binds K a.d_Reader_init (["self", "numbers"]) []
  F_Reader_at_end : Fun K "at_end" "Reader.at_end" s_Reader_at_end a.f_Reader_at_end a.d_Reader_at_end
  b_Reader_at_end : Binds K a.d_Reader_at_end (["self"]) []
  me_Reader_at_end : Meth K a.cReader "at_end" a.f_Reader_at_end
  F_Reader_number : Fun K "number" "Reader.number" s_Reader_number a.f_Reader_number a.d_Reader_number
  b_Reader_number : Binds K a.d_Reader_number (["self"]) []
  me_Reader_number : Meth K a.cReader "number" a.f_Reader_number
  F_Reader_row : Fun K "row" "Reader.row" s_Reader_row a.f_Reader_row a.d_Reader_row
  b_Reader_row : Binds K a.d_Reader_row (["self"]) []
  me_Reader_row : Meth K a.cReader "row" a.f_Reader_row
  F_Machine_init : Fun K "__init__" "Machine.__init__" s_Machine_init a.f_Machine_init a.d_Machine_init
  b_Machine_init : Binds K a.d_Machine_init (["self"]) []
  F_Machine_begin : Fun K "begin" "Machine.begin" s_Machine_begin a.f_Machine_begin a.d_Machine_begin
  b_Machine_begin : Binds K a.d_Machine_begin (["self", "setup"]) []
  me_Machine_begin : Meth K a.cMachine "begin" a.f_Machine_begin
  F_all_within : Fun K "all_within" "all_within" s_all_within a.f_all_within a.d_all_within
  b_all_within : Binds K a.d_all_within (["numbers", "least", "most"]) []
  mg_all_within : mg "all_within" = some (.ref a.f_all_within)
  F_is_as_told : Fun K "is_as_told" "is_as_told" s_is_as_told a.f_is_as_told a.d_is_as_told
  b_is_as_told : Binds K a.d_is_as_told (["setup"]) []
  mg_is_as_told : mg "is_as_told" = some (.ref a.f_is_as_told)
  F_only_nothing : Fun K "only_nothing" "only_nothing" s_only_nothing a.f_only_nothing a.d_only_nothing
  b_only_nothing : Binds K a.d_only_nothing (["limit"]) []
  mg_only_nothing : mg "only_nothing" = some (.ref a.f_only_nothing)
  F_holds : Fun K "holds" "holds" s_holds a.f_holds a.d_holds
  b_holds : Binds K a.d_holds (["words", "amount"]) []
  mg_holds : mg "holds" = some (.ref a.f_holds)
  F_greatest : Fun K "greatest" "greatest" s_greatest a.f_greatest a.d_greatest
  b_greatest : Binds K a.d_greatest (["words", "limit"]) []
  mg_greatest : mg "greatest" = some (.ref a.f_greatest)
  F_raised : Fun K "raised" "raised" s_raised a.f_raised a.d_raised
  b_raised : Binds K a.d_raised (["words", "more"]) []
  mg_raised : mg "raised" = some (.ref a.f_raised)
  F_with_kind : Fun K "with_kind" "with_kind" s_with_kind a.f_with_kind a.d_with_kind
  b_with_kind : Binds K a.d_with_kind (["words", "value", "count"]) []
  mg_with_kind : mg "with_kind" = some (.ref a.f_with_kind)
  F_tails : Fun K "tails" "tails" s_tails a.f_tails a.d_tails
  b_tails : Binds K a.d_tails (["value", "count", "limit"]) []
  mg_tails : mg "tails" = some (.ref a.f_tails)
  F_payable : Fun K "payable" "payable" s_payable a.f_payable a.d_payable
  b_payable : Binds K a.d_payable (["value", "count", "limit"]) []
  mg_payable : mg "payable" = some (.ref a.f_payable)
  F_most_coins : Fun K "most_coins" "most_coins" s_most_coins a.f_most_coins a.d_most_coins
  b_most_coins : Binds K a.d_most_coins (["tail", "value", "count", "amount"]) []
  mg_most_coins : mg "most_coins" = some (.ref a.f_most_coins)
  F_payment_back : Fun K "payment_back" "payment_back" s_payment_back a.f_payment_back a.d_payment_back
  b_payment_back : Binds K a.d_payment_back (["value", "count", "credit"]) []
  mg_payment_back : mg "payment_back" = some (.ref a.f_payment_back)
  F_since : Fun K "since" "since" s_since a.f_since a.d_since
  b_since : Binds K a.d_since (["now", "before"]) []
  mg_since : mg "since" = some (.ref a.f_since)
  F_worth : Fun K "worth" "worth" s_worth a.f_worth a.d_worth
  b_worth : Binds K a.d_worth (["price", "count"]) []
  mg_worth : mg "worth" = some (.ref a.f_worth)
  F_bits : Fun K "bits" "bits" s_bits a.f_bits a.d_bits
  b_bits : Binds K a.d_bits (["marks"]) []
  mg_bits : mg "bits" = some (.ref a.f_bits)
  F_refusal : Fun K "refusal" "refusal" s_refusal a.f_refusal a.d_refusal
  b_refusal : Binds K a.d_refusal ([]) []
  mg_refusal : mg "refusal" = some (.ref a.f_refusal)
  F_start : Fun K "start" "start" s_start a.f_start a.d_start
  b_start : Binds K a.d_start (["machine", "setup", "told"]) []
  mg_start : mg "start" = some (.ref a.f_start)
  F_press : Fun K "press" "press" s_press a.f_press a.d_press
  b_press : Binds K a.d_press (["machine", "slot", "told"]) []
  mg_press : mg "press" = some (.ref a.f_press)
  F_sell : Fun K "sell" "sell" s_sell a.f_sell a.d_sell
  b_sell : Binds K a.d_sell (["turn", "slot"]) []
  mg_sell : mg "sell" = some (.ref a.f_sell)
  F_cancel : Fun K "cancel" "cancel" s_cancel a.f_cancel a.d_cancel
  b_cancel : Binds K a.d_cancel (["machine", "told"]) []
  mg_cancel : mg "cancel" = some (.ref a.f_cancel)
  F_tick : Fun K "tick" "tick" s_tick a.f_tick a.d_tick
  b_tick : Binds K a.d_tick (["machine", "told"]) []
  mg_tick : mg "tick" = some (.ref a.f_tick)
  F_answer_call : Fun K "answer_call" "answer_call" s_answer_call a.f_answer_call a.d_answer_call
  b_answer_call : Binds K a.d_answer_call (["machine", "reader"]) []
  mg_answer_call : mg "answer_call" = some (.ref a.f_answer_call)
  F_answers : Fun K "answers" "answers" s_answers a.f_answers a.d_answers
  b_answers : Binds K a.d_answers (["calls"]) []
  mg_answers : mg "answers" = some (.ref a.f_answers)
  g_WIDTH : ∃ t, mg "WIDTH" = some (.int (1000) t)
  g_TAKE : ∃ t, mg "TAKE" = some (.int (1) t)
  g_IN : ∃ t, mg "IN" = some (.int (2) t)
  g_OUT : ∃ t, mg "OUT" = some (.int (3) t)
  g_FELL : ∃ t, mg "FELL" = some (.int (4) t)
  g_PAY : ∃ t, mg "PAY" = some (.int (5) t)
  g_DROP : ∃ t, mg "DROP" = some (.int (6) t)
  g_SHOW : ∃ t, mg "SHOW" = some (.int (7) t)
  g_START : ∃ t, mg "START" = some (.int (0) t)
  g_PRESS : ∃ t, mg "PRESS" = some (.int (1) t)
  g_CANCEL : ∃ t, mg "CANCEL" = some (.int (2) t)
  g_WRONG : ∃ t, mg "WRONG" = some (.int (-22) t)
  g_NOT_FOR_SALE : ∃ t, mg "NOT_FOR_SALE" = some (.int (-33) t)
  g_DID_NOT_FALL : ∃ t, mg "DID_NOT_FALL" = some (.int (-5) t)
  n_all : mg "all" = Option.none
  n_sum : mg "sum" = Option.none
  n_zip : mg "zip" = Option.none
  n_range : mg "range" = Option.none
  n_enumerate : mg "enumerate" = Option.none
  n_len : mg "len" = Option.none
  n_min : mg "min" = Option.none
theorem pe_gI {X : Cx} {x : Str} {z : Int} {pos : Pos} (h : ∃ t, X.mg x = some (.int z t)) (hg : Gl X x := by rfl) (hd : (x == ("__debug__" : Str)) = false := by decide) : PE X (.Name x pos) (tC (.int z)) := by
  obtain ⟨t, e⟩ := h
  exact pe_glob hg e ⟨t, rfl⟩ hd
end Hs
end
section
set_option Elab.async false
set_option linter.all false
set_option maxRecDepth 100000
set_option maxHeartbeats 2000000
namespace Hs
open PySem PySem.Spec PyProof.Rows L2
def vN (n : Nat) : V := .int (n : Int)
def suF (x0 x1 x2 x3 x4 x5 x6 x7 x8 x9 x10 : V) : List (Str × V) := [("kinds", x0), ("slots", x1), ("most", x2), ("none", x3), ("value", x4), ("tube", x5), ("price", x6), ("stock", x7), ("in0", x8), ("out0", x9), ("fell0", x10)]
theorem suF_kinds {x0 x1 x2 x3 x4 x5 x6 x7 x8 x9 x10 : V} : (suF x0 x1 x2 x3 x4 x5 x6 x7 x8 x9 x10).lookup ("kinds" : Str) = some x0 := by unfold suF; kernel_rfl
theorem suP_kinds {x0 x1 x2 x3 x4 x5 x6 x7 x8 x9 x10 y : V} : putF "kinds" y (suF x0 x1 x2 x3 x4 x5 x6 x7 x8 x9 x10) = suF y x1 x2 x3 x4 x5 x6 x7 x8 x9 x10 := by unfold suF; kernel_rfl
theorem suF_slots {x0 x1 x2 x3 x4 x5 x6 x7 x8 x9 x10 : V} : (suF x0 x1 x2 x3 x4 x5 x6 x7 x8 x9 x10).lookup ("slots" : Str) = some x1 := by unfold suF; kernel_rfl
theorem suP_slots {x0 x1 x2 x3 x4 x5 x6 x7 x8 x9 x10 y : V} : putF "slots" y (suF x0 x1 x2 x3 x4 x5 x6 x7 x8 x9 x10) = suF x0 y x2 x3 x4 x5 x6 x7 x8 x9 x10 := by unfold suF; kernel_rfl
theorem suF_most {x0 x1 x2 x3 x4 x5 x6 x7 x8 x9 x10 : V} : (suF x0 x1 x2 x3 x4 x5 x6 x7 x8 x9 x10).lookup ("most" : Str) = some x2 := by unfold suF; kernel_rfl
theorem suP_most {x0 x1 x2 x3 x4 x5 x6 x7 x8 x9 x10 y : V} : putF "most" y (suF x0 x1 x2 x3 x4 x5 x6 x7 x8 x9 x10) = suF x0 x1 y x3 x4 x5 x6 x7 x8 x9 x10 := by unfold suF; kernel_rfl
theorem suF_none {x0 x1 x2 x3 x4 x5 x6 x7 x8 x9 x10 : V} : (suF x0 x1 x2 x3 x4 x5 x6 x7 x8 x9 x10).lookup ("none" : Str) = some x3 := by unfold suF; kernel_rfl
theorem suP_none {x0 x1 x2 x3 x4 x5 x6 x7 x8 x9 x10 y : V} : putF "none" y (suF x0 x1 x2 x3 x4 x5 x6 x7 x8 x9 x10) = suF x0 x1 x2 y x4 x5 x6 x7 x8 x9 x10 := by unfold suF; kernel_rfl
theorem suF_value {x0 x1 x2 x3 x4 x5 x6 x7 x8 x9 x10 : V} : (suF x0 x1 x2 x3 x4 x5 x6 x7 x8 x9 x10).lookup ("value" : Str) = some x4 := by unfold suF; kernel_rfl
theorem suP_value {x0 x1 x2 x3 x4 x5 x6 x7 x8 x9 x10 y : V} : putF "value" y (suF x0 x1 x2 x3 x4 x5 x6 x7 x8 x9 x10) = suF x0 x1 x2 x3 y x5 x6 x7 x8 x9 x10 := by unfold suF; kernel_rfl
theorem suF_tube {x0 x1 x2 x3 x4 x5 x6 x7 x8 x9 x10 : V} : (suF x0 x1 x2 x3 x4 x5 x6 x7 x8 x9 x10).lookup ("tube" : Str) = some x5 := by unfold suF; kernel_rfl
theorem suP_tube {x0 x1 x2 x3 x4 x5 x6 x7 x8 x9 x10 y : V} : putF "tube" y (suF x0 x1 x2 x3 x4 x5 x6 x7 x8 x9 x10) = suF x0 x1 x2 x3 x4 y x6 x7 x8 x9 x10 := by unfold suF; kernel_rfl
theorem suF_price {x0 x1 x2 x3 x4 x5 x6 x7 x8 x9 x10 : V} : (suF x0 x1 x2 x3 x4 x5 x6 x7 x8 x9 x10).lookup ("price" : Str) = some x6 := by unfold suF; kernel_rfl
theorem suP_price {x0 x1 x2 x3 x4 x5 x6 x7 x8 x9 x10 y : V} : putF "price" y (suF x0 x1 x2 x3 x4 x5 x6 x7 x8 x9 x10) = suF x0 x1 x2 x3 x4 x5 y x7 x8 x9 x10 := by unfold suF; kernel_rfl
theorem suF_stock {x0 x1 x2 x3 x4 x5 x6 x7 x8 x9 x10 : V} : (suF x0 x1 x2 x3 x4 x5 x6 x7 x8 x9 x10).lookup ("stock" : Str) = some x7 := by unfold suF; kernel_rfl
theorem suP_stock {x0 x1 x2 x3 x4 x5 x6 x7 x8 x9 x10 y : V} : putF "stock" y (suF x0 x1 x2 x3 x4 x5 x6 x7 x8 x9 x10) = suF x0 x1 x2 x3 x4 x5 x6 y x8 x9 x10 := by unfold suF; kernel_rfl
theorem suF_in0 {x0 x1 x2 x3 x4 x5 x6 x7 x8 x9 x10 : V} : (suF x0 x1 x2 x3 x4 x5 x6 x7 x8 x9 x10).lookup ("in0" : Str) = some x8 := by unfold suF; kernel_rfl
theorem suP_in0 {x0 x1 x2 x3 x4 x5 x6 x7 x8 x9 x10 y : V} : putF "in0" y (suF x0 x1 x2 x3 x4 x5 x6 x7 x8 x9 x10) = suF x0 x1 x2 x3 x4 x5 x6 x7 y x9 x10 := by unfold suF; kernel_rfl
theorem suF_out0 {x0 x1 x2 x3 x4 x5 x6 x7 x8 x9 x10 : V} : (suF x0 x1 x2 x3 x4 x5 x6 x7 x8 x9 x10).lookup ("out0" : Str) = some x9 := by unfold suF; kernel_rfl
theorem suP_out0 {x0 x1 x2 x3 x4 x5 x6 x7 x8 x9 x10 y : V} : putF "out0" y (suF x0 x1 x2 x3 x4 x5 x6 x7 x8 x9 x10) = suF x0 x1 x2 x3 x4 x5 x6 x7 x8 y x10 := by unfold suF; kernel_rfl
theorem suF_fell0 {x0 x1 x2 x3 x4 x5 x6 x7 x8 x9 x10 : V} : (suF x0 x1 x2 x3 x4 x5 x6 x7 x8 x9 x10).lookup ("fell0" : Str) = some x10 := by unfold suF; kernel_rfl
theorem suP_fell0 {x0 x1 x2 x3 x4 x5 x6 x7 x8 x9 x10 y : V} : putF "fell0" y (suF x0 x1 x2 x3 x4 x5 x6 x7 x8 x9 x10) = suF x0 x1 x2 x3 x4 x5 x6 x7 x8 x9 y := by unfold suF; kernel_rfl
theorem suI {x0 x1 x2 x3 x4 x5 x6 x7 x8 x9 x10 : V} : putF "fell0" x10 (putF "out0" x9 (putF "in0" x8 (putF "stock" x7 (putF "price" x6 (putF "tube" x5 (putF "value" x4 (putF "none" x3 (putF "most" x2 (putF "slots" x1 (putF "kinds" x0 ([]))))))))))) = suF x0 x1 x2 x3 x4 x5 x6 x7 x8 x9 x10 := by unfold suF; kernel_rfl
theorem suL {x0 x1 x2 x3 x4 x5 x6 x7 x8 x9 x10 : V} : (suF x0 x1 x2 x3 x4 x5 x6 x7 x8 x9 x10).length < 1000 := by show 11 < 1000; decide
theorem suI1 {x0 x1 : V} : putF "slots" x1 [("kinds", x0)] = ([("kinds", x0), ("slots", x1)] : List (Str × V)) := by kernel_rfl
theorem suI2 {x0 x1 x2 : V} : putF "most" x2 [("kinds", x0), ("slots", x1)] = ([("kinds", x0), ("slots", x1), ("most", x2)] : List (Str × V)) := by kernel_rfl
theorem suI3 {x0 x1 x2 x3 : V} : putF "none" x3 [("kinds", x0), ("slots", x1), ("most", x2)] = ([("kinds", x0), ("slots", x1), ("most", x2), ("none", x3)] : List (Str × V)) := by kernel_rfl
theorem suI4 {x0 x1 x2 x3 x4 : V} : putF "value" x4 [("kinds", x0), ("slots", x1), ("most", x2), ("none", x3)] = ([("kinds", x0), ("slots", x1), ("most", x2), ("none", x3), ("value", x4)] : List (Str × V)) := by kernel_rfl
theorem suI5 {x0 x1 x2 x3 x4 x5 : V} : putF "tube" x5 [("kinds", x0), ("slots", x1), ("most", x2), ("none", x3), ("value", x4)] = ([("kinds", x0), ("slots", x1), ("most", x2), ("none", x3), ("value", x4), ("tube", x5)] : List (Str × V)) := by kernel_rfl
theorem suI6 {x0 x1 x2 x3 x4 x5 x6 : V} : putF "price" x6 [("kinds", x0), ("slots", x1), ("most", x2), ("none", x3), ("value", x4), ("tube", x5)] = ([("kinds", x0), ("slots", x1), ("most", x2), ("none", x3), ("value", x4), ("tube", x5), ("price", x6)] : List (Str × V)) := by kernel_rfl
theorem suI7 {x0 x1 x2 x3 x4 x5 x6 x7 : V} : putF "stock" x7 [("kinds", x0), ("slots", x1), ("most", x2), ("none", x3), ("value", x4), ("tube", x5), ("price", x6)] = ([("kinds", x0), ("slots", x1), ("most", x2), ("none", x3), ("value", x4), ("tube", x5), ("price", x6), ("stock", x7)] : List (Str × V)) := by kernel_rfl
theorem suI8 {x0 x1 x2 x3 x4 x5 x6 x7 x8 : V} : putF "in0" x8 [("kinds", x0), ("slots", x1), ("most", x2), ("none", x3), ("value", x4), ("tube", x5), ("price", x6), ("stock", x7)] = ([("kinds", x0), ("slots", x1), ("most", x2), ("none", x3), ("value", x4), ("tube", x5), ("price", x6), ("stock", x7), ("in0", x8)] : List (Str × V)) := by kernel_rfl
theorem suI9 {x0 x1 x2 x3 x4 x5 x6 x7 x8 x9 : V} : putF "out0" x9 [("kinds", x0), ("slots", x1), ("most", x2), ("none", x3), ("value", x4), ("tube", x5), ("price", x6), ("stock", x7), ("in0", x8)] = ([("kinds", x0), ("slots", x1), ("most", x2), ("none", x3), ("value", x4), ("tube", x5), ("price", x6), ("stock", x7), ("in0", x8), ("out0", x9)] : List (Str × V)) := by kernel_rfl
theorem suI10 {x0 x1 x2 x3 x4 x5 x6 x7 x8 x9 x10 : V} : putF "fell0" x10 [("kinds", x0), ("slots", x1), ("most", x2), ("none", x3), ("value", x4), ("tube", x5), ("price", x6), ("stock", x7), ("in0", x8), ("out0", x9)] = ([("kinds", x0), ("slots", x1), ("most", x2), ("none", x3), ("value", x4), ("tube", x5), ("price", x6), ("stock", x7), ("in0", x8), ("out0", x9), ("fell0", x10)] : List (Str × V)) := by kernel_rfl
def arF (x0 x1 x2 x3 : V) : List (Str × V) := [("told", x0), ("heard", x1), ("times", x2), ("asked", x3)]
theorem arF_told {x0 x1 x2 x3 : V} : (arF x0 x1 x2 x3).lookup ("told" : Str) = some x0 := by unfold arF; kernel_rfl
theorem arP_told {x0 x1 x2 x3 y : V} : putF "told" y (arF x0 x1 x2 x3) = arF y x1 x2 x3 := by unfold arF; kernel_rfl
theorem arF_heard {x0 x1 x2 x3 : V} : (arF x0 x1 x2 x3).lookup ("heard" : Str) = some x1 := by unfold arF; kernel_rfl
theorem arP_heard {x0 x1 x2 x3 y : V} : putF "heard" y (arF x0 x1 x2 x3) = arF x0 y x2 x3 := by unfold arF; kernel_rfl
theorem arF_times {x0 x1 x2 x3 : V} : (arF x0 x1 x2 x3).lookup ("times" : Str) = some x2 := by unfold arF; kernel_rfl
theorem arP_times {x0 x1 x2 x3 y : V} : putF "times" y (arF x0 x1 x2 x3) = arF x0 x1 y x3 := by unfold arF; kernel_rfl
theorem arF_asked {x0 x1 x2 x3 : V} : (arF x0 x1 x2 x3).lookup ("asked" : Str) = some x3 := by unfold arF; kernel_rfl
theorem arP_asked {x0 x1 x2 x3 y : V} : putF "asked" y (arF x0 x1 x2 x3) = arF x0 x1 x2 y := by unfold arF; kernel_rfl
theorem arM_note {x0 x1 x2 x3 : V} : (arF x0 x1 x2 x3).lookup ("note" : Str) = Option.none := by unfold arF; kernel_rfl
theorem arM_ask {x0 x1 x2 x3 : V} : (arF x0 x1 x2 x3).lookup ("ask" : Str) = Option.none := by unfold arF; kernel_rfl
theorem arM_counters {x0 x1 x2 x3 : V} : (arF x0 x1 x2 x3).lookup ("counters" : Str) = Option.none := by unfold arF; kernel_rfl
theorem arM_pay {x0 x1 x2 x3 : V} : (arF x0 x1 x2 x3).lookup ("pay" : Str) = Option.none := by unfold arF; kernel_rfl
theorem arM_drop {x0 x1 x2 x3 : V} : (arF x0 x1 x2 x3).lookup ("drop" : Str) = Option.none := by unfold arF; kernel_rfl
theorem arM_take {x0 x1 x2 x3 : V} : (arF x0 x1 x2 x3).lookup ("take" : Str) = Option.none := by unfold arF; kernel_rfl
theorem arM_show {x0 x1 x2 x3 : V} : (arF x0 x1 x2 x3).lookup ("show" : Str) = Option.none := by unfold arF; kernel_rfl
theorem arI {x0 x1 x2 x3 : V} : putF "asked" x3 (putF "times" x2 (putF "heard" x1 (putF "told" x0 ([])))) = arF x0 x1 x2 x3 := by unfold arF; kernel_rfl
theorem arL {x0 x1 x2 x3 : V} : (arF x0 x1 x2 x3).length < 1000 := by show 4 < 1000; decide
theorem arI1 {x0 x1 : V} : putF "heard" x1 [("told", x0)] = ([("told", x0), ("heard", x1)] : List (Str × V)) := by kernel_rfl
theorem arI2 {x0 x1 x2 : V} : putF "times" x2 [("told", x0), ("heard", x1)] = ([("told", x0), ("heard", x1), ("times", x2)] : List (Str × V)) := by kernel_rfl
theorem arI3 {x0 x1 x2 x3 : V} : putF "asked" x3 [("told", x0), ("heard", x1), ("times", x2)] = ([("told", x0), ("heard", x1), ("times", x2), ("asked", x3)] : List (Str × V)) := by kernel_rfl
def tuF (x0 x1 x2 x3 x4 x5 : V) : List (Str × V) := [("machine", x0), ("around", x1), ("value", x2), ("at_hand", x3), ("left", x4), ("credit", x5)]
theorem tuF_machine {x0 x1 x2 x3 x4 x5 : V} : (tuF x0 x1 x2 x3 x4 x5).lookup ("machine" : Str) = some x0 := by unfold tuF; kernel_rfl
theorem tuP_machine {x0 x1 x2 x3 x4 x5 y : V} : putF "machine" y (tuF x0 x1 x2 x3 x4 x5) = tuF y x1 x2 x3 x4 x5 := by unfold tuF; kernel_rfl
theorem tuF_around {x0 x1 x2 x3 x4 x5 : V} : (tuF x0 x1 x2 x3 x4 x5).lookup ("around" : Str) = some x1 := by unfold tuF; kernel_rfl
theorem tuP_around {x0 x1 x2 x3 x4 x5 y : V} : putF "around" y (tuF x0 x1 x2 x3 x4 x5) = tuF x0 y x2 x3 x4 x5 := by unfold tuF; kernel_rfl
theorem tuF_value {x0 x1 x2 x3 x4 x5 : V} : (tuF x0 x1 x2 x3 x4 x5).lookup ("value" : Str) = some x2 := by unfold tuF; kernel_rfl
theorem tuP_value {x0 x1 x2 x3 x4 x5 y : V} : putF "value" y (tuF x0 x1 x2 x3 x4 x5) = tuF x0 x1 y x3 x4 x5 := by unfold tuF; kernel_rfl
theorem tuF_at_hand {x0 x1 x2 x3 x4 x5 : V} : (tuF x0 x1 x2 x3 x4 x5).lookup ("at_hand" : Str) = some x3 := by unfold tuF; kernel_rfl
theorem tuP_at_hand {x0 x1 x2 x3 x4 x5 y : V} : putF "at_hand" y (tuF x0 x1 x2 x3 x4 x5) = tuF x0 x1 x2 y x4 x5 := by unfold tuF; kernel_rfl
theorem tuF_left {x0 x1 x2 x3 x4 x5 : V} : (tuF x0 x1 x2 x3 x4 x5).lookup ("left" : Str) = some x4 := by unfold tuF; kernel_rfl
theorem tuP_left {x0 x1 x2 x3 x4 x5 y : V} : putF "left" y (tuF x0 x1 x2 x3 x4 x5) = tuF x0 x1 x2 x3 y x5 := by unfold tuF; kernel_rfl
theorem tuF_credit {x0 x1 x2 x3 x4 x5 : V} : (tuF x0 x1 x2 x3 x4 x5).lookup ("credit" : Str) = some x5 := by unfold tuF; kernel_rfl
theorem tuP_credit {x0 x1 x2 x3 x4 x5 y : V} : putF "credit" y (tuF x0 x1 x2 x3 x4 x5) = tuF x0 x1 x2 x3 x4 y := by unfold tuF; kernel_rfl
theorem tuM_usable {x0 x1 x2 x3 x4 x5 : V} : (tuF x0 x1 x2 x3 x4 x5).lookup ("usable" : Str) = Option.none := by unfold tuF; kernel_rfl
theorem tuM_for_sale {x0 x1 x2 x3 x4 x5 : V} : (tuF x0 x1 x2 x3 x4 x5).lookup ("for_sale" : Str) = Option.none := by unfold tuF; kernel_rfl
theorem tuM_can_be_bought {x0 x1 x2 x3 x4 x5 : V} : (tuF x0 x1 x2 x3 x4 x5).lookup ("can_be_bought" : Str) = Option.none := by unfold tuF; kernel_rfl
theorem tuM_drop {x0 x1 x2 x3 x4 x5 : V} : (tuF x0 x1 x2 x3 x4 x5).lookup ("drop" : Str) = Option.none := by unfold tuF; kernel_rfl
theorem tuM_pay_coin {x0 x1 x2 x3 x4 x5 : V} : (tuF x0 x1 x2 x3 x4 x5).lookup ("pay_coin" : Str) = Option.none := by unfold tuF; kernel_rfl
theorem tuM_pay_coins {x0 x1 x2 x3 x4 x5 : V} : (tuF x0 x1 x2 x3 x4 x5).lookup ("pay_coins" : Str) = Option.none := by unfold tuF; kernel_rfl
theorem tuM_pay_back {x0 x1 x2 x3 x4 x5 : V} : (tuF x0 x1 x2 x3 x4 x5).lookup ("pay_back" : Str) = Option.none := by unfold tuF; kernel_rfl
theorem tuM_end {x0 x1 x2 x3 x4 x5 : V} : (tuF x0 x1 x2 x3 x4 x5).lookup ("end" : Str) = Option.none := by unfold tuF; kernel_rfl
theorem tuI {x0 x1 x2 x3 x4 x5 : V} : putF "credit" x5 (putF "left" x4 (putF "at_hand" x3 (putF "value" x2 (putF "around" x1 (putF "machine" x0 ([])))))) = tuF x0 x1 x2 x3 x4 x5 := by unfold tuF; kernel_rfl
theorem tuL {x0 x1 x2 x3 x4 x5 : V} : (tuF x0 x1 x2 x3 x4 x5).length < 1000 := by show 6 < 1000; decide
theorem tuI1 {x0 x1 : V} : putF "around" x1 [("machine", x0)] = ([("machine", x0), ("around", x1)] : List (Str × V)) := by kernel_rfl
theorem tuI2 {x0 x1 x2 : V} : putF "value" x2 [("machine", x0), ("around", x1)] = ([("machine", x0), ("around", x1), ("value", x2)] : List (Str × V)) := by kernel_rfl
theorem tuI3 {x0 x1 x2 x3 : V} : putF "at_hand" x3 [("machine", x0), ("around", x1), ("value", x2)] = ([("machine", x0), ("around", x1), ("value", x2), ("at_hand", x3)] : List (Str × V)) := by kernel_rfl
theorem tuI4 {x0 x1 x2 x3 x4 : V} : putF "left" x4 [("machine", x0), ("around", x1), ("value", x2), ("at_hand", x3)] = ([("machine", x0), ("around", x1), ("value", x2), ("at_hand", x3), ("left", x4)] : List (Str × V)) := by kernel_rfl
theorem tuI5 {x0 x1 x2 x3 x4 x5 : V} : putF "credit" x5 [("machine", x0), ("around", x1), ("value", x2), ("at_hand", x3), ("left", x4)] = ([("machine", x0), ("around", x1), ("value", x2), ("at_hand", x3), ("left", x4), ("credit", x5)] : List (Str × V)) := by kernel_rfl
def reF (x0 x1 : V) : List (Str × V) := [("numbers", x0), ("place", x1)]
theorem reF_numbers {x0 x1 : V} : (reF x0 x1).lookup ("numbers" : Str) = some x0 := by unfold reF; kernel_rfl
theorem reP_numbers {x0 x1 y : V} : putF "numbers" y (reF x0 x1) = reF y x1 := by unfold reF; kernel_rfl
theorem reF_place {x0 x1 : V} : (reF x0 x1).lookup ("place" : Str) = some x1 := by unfold reF; kernel_rfl
theorem reP_place {x0 x1 y : V} : putF "place" y (reF x0 x1) = reF x0 y := by unfold reF; kernel_rfl
theorem reM_at_end {x0 x1 : V} : (reF x0 x1).lookup ("at_end" : Str) = Option.none := by unfold reF; kernel_rfl
theorem reM_number {x0 x1 : V} : (reF x0 x1).lookup ("number" : Str) = Option.none := by unfold reF; kernel_rfl
theorem reM_row {x0 x1 : V} : (reF x0 x1).lookup ("row" : Str) = Option.none := by unfold reF; kernel_rfl
theorem reI {x0 x1 : V} : putF "place" x1 (putF "numbers" x0 ([])) = reF x0 x1 := by unfold reF; kernel_rfl
theorem reL {x0 x1 : V} : (reF x0 x1).length < 1000 := by show 2 < 1000; decide
theorem reI1 {x0 x1 : V} : putF "place" x1 [("numbers", x0)] = ([("numbers", x0), ("place", x1)] : List (Str × V)) := by kernel_rfl
def maF (x0 x1 x2 : V) : List (Str × V) := [("setup", x0), ("stuck", x1), ("failed", x2)]
theorem maF_setup {x0 x1 x2 : V} : (maF x0 x1 x2).lookup ("setup" : Str) = some x0 := by unfold maF; kernel_rfl
theorem maP_setup {x0 x1 x2 y : V} : putF "setup" y (maF x0 x1 x2) = maF y x1 x2 := by unfold maF; kernel_rfl
theorem maF_stuck {x0 x1 x2 : V} : (maF x0 x1 x2).lookup ("stuck" : Str) = some x1 := by unfold maF; kernel_rfl
theorem maP_stuck {x0 x1 x2 y : V} : putF "stuck" y (maF x0 x1 x2) = maF x0 y x2 := by unfold maF; kernel_rfl
theorem maF_failed {x0 x1 x2 : V} : (maF x0 x1 x2).lookup ("failed" : Str) = some x2 := by unfold maF; kernel_rfl
theorem maP_failed {x0 x1 x2 y : V} : putF "failed" y (maF x0 x1 x2) = maF x0 x1 y := by unfold maF; kernel_rfl
theorem maM_begin {x0 x1 x2 : V} : (maF x0 x1 x2).lookup ("begin" : Str) = Option.none := by unfold maF; kernel_rfl
theorem maI {x0 x1 x2 : V} : putF "failed" x2 (putF "stuck" x1 (putF "setup" x0 ([]))) = maF x0 x1 x2 := by unfold maF; kernel_rfl
theorem maL {x0 x1 x2 : V} : (maF x0 x1 x2).length < 1000 := by show 3 < 1000; decide
theorem maI1 {x0 x1 : V} : putF "stuck" x1 [("setup", x0)] = ([("setup", x0), ("stuck", x1)] : List (Str × V)) := by kernel_rfl
theorem maI2 {x0 x1 x2 : V} : putF "failed" x2 [("setup", x0), ("stuck", x1)] = ([("setup", x0), ("stuck", x1), ("failed", x2)] : List (Str × V)) := by kernel_rfl
end Hs
end
section
set_option Elab.async false
set_option linter.all false
set_option maxRecDepth 100000
set_option maxHeartbeats 4000000
namespace Hs
open PySem PySem.Spec PyProof.Rows L2
/-- a set of amounts stands at p -/
def RepAt (H : Hp) (p : Addr) (L : Nat) (P : Nat → Bool) : Prop := ∃ us : List Nat, H p = some (.lst (us.map vN)) ∧ RepN 1000 us L P
theorem RepAt.same {H H' : Hp} {p : Addr} {L : Nat} {P : Nat → Bool} (h : RepAt H p L P) (s : Same H H') : RepAt H' p L P :=
  let ⟨us, a, b⟩ := h; ⟨us, s _ _ a, b⟩
theorem RepAt.congr {H : Hp} {p : Addr} {L : Nat} {P P' : Nat → Bool} (h : RepAt H p L P) (e : ∀ n, n < L * 1000 → P n = P' n) : RepAt H p L P' :=
  let ⟨us, a, b⟩ := h; ⟨us, a, b.congr e⟩
theorem hW : 0 < 1000 := by decide
theorem szl : sizeLine = 16777216 := sizeLine_eq
theorem flat_one {α : Type} (x : α) (n : Nat) : (List.replicate n [x]).flatten = List.replicate n x := List.flatten_replicate_singleton
section
variable {P : Program} {w : World} {K : PySem.W.Frag} {mg : Str → Option Value} {base : Heap} {a : Ad}
/-! ### only_nothing -/
def sp_only_nothing : Sp := fun vs H Q _ => ∃ m : Nat, vs = [vN m] ∧ m ≤ 20000 ∧ ∀ (H' : Hp) (p : Addr), Same H H' → RepAt H' p (m / 1000 + 1) (fun n => n == 0) → Q (.ref p) H'
theorem sc_only_nothing : FnScope ["limit"] ["limit"] (defScope s_only_nothing) := ⟨rfl, rfl, rfl, by decide +kernel, rfl, by decide +kernel, by decide +kernel⟩
theorem ok_only_nothing (T : Txt K mg a) : FnOk P w K mg base CX0 1 a.f_only_nothing a.d_only_nothing ["limit"] sp_only_nothing := by
  refine T.F_only_nothing.ok sc_only_nothing (fun vs H Q E h => ?_) (fun cdv A outer s H vs Q E hr h => ?_)
  · obtain ⟨m, rfl, _⟩ := h
    rfl
  · obtain ⟨m, rfl, hm, k⟩ := h
    refine ⟨_, pss_one (ps_ret (pe_op op_cat (pe_lst (pa_cons pe_int pa_nil)) (pe_op op_rep (pe_lst (pa_cons pe_int pa_nil)) (pe_op op_fdiv (pv 0) (pe_gI T.g_WIDTH))))), ?_⟩
    have hs := szl
    refine ⟨by show 1 ≤ sizeLine; omega, fun x hx => ⟨by show 1 ≤ sizeLine; omega, fun y hy => ?_⟩⟩
    have e1 : ((m : Int) / 1000).toNat = m / 1000 := by omega
    refine ⟨_, rfl, _, _, rfl, rfl, ⟨by decide, by decide⟩, y, _, _, rfl, rfl, upd_same, by omega, by omega, ?_, fun z hz => ?_⟩
    · show 1 * ((m : Int) / 1000).toNat ≤ sizeLine
      omega
    · have hxy : x ≠ y := ne_of_none (upd_same (o := HO.lst [V.int 1])) hy
      have hxz : x ≠ z := ne_of_none (show (upd (upd H x (.lst [V.int 1])) y (.lst [V.int 0])) x = some (.lst [V.int 1]) by rw [upd_ne hxy, upd_same]) hz
      refine ⟨x, z, _, _, rfl, rfl, (by rw [upd_ne hxz, upd_ne hxy, upd_same]), upd_same, ?_, fun p hp => ?_⟩
      · rw [flat_one, List.length_replicate]
        show 1 + _ ≤ sizeLine
        omega
      · refine k _ p ?_ ⟨1 :: List.replicate (m / 1000) 0, ?_, rep_only hW _⟩
        · exact (((same_new hx).trans (same_new hy)).trans (same_new hz)).trans (same_new hp)
        · rw [upd_same, flat_one, e1, List.map_cons, List.map_replicate]
          rfl
/-! ### holds -/
theorem holds_eq (u n : Nat) : decide (V.int (Builtin.bitAnd ((u : Int) / 2 ^ ((n : Int) % 1000).toNat) 1) = V.int 1) = u.testBit (n % 1000) := by
  have e1 : ((n : Int) % 1000).toNat = n % 1000 := by omega
  have e2 : (u : Int) / 2 ^ (n % 1000) = ((u / 2 ^ (n % 1000) : Nat) : Int) := by rw [Int.natCast_ediv, Int.natCast_pow]; rfl
  rw [e1, bitAnd_m1, e2, Nat.testBit_eq_decide_div_mod_eq]
  refine decide_eq_decide.mpr ⟨fun h => ?_, fun h => ?_⟩
  · injection h with h
    omega
  · congr 1
    omega
def sp_holds : Sp := fun vs H Q _ => ∃ (p : Addr) (n L : Nat) (S : Nat → Bool), vs = [.ref p, vN n] ∧ RepAt H p L S ∧ n < L * 1000 ∧ Q (.bl (S n)) H
theorem sc_holds : FnScope ["words", "amount"] ["words", "amount"] (defScope s_holds) := ⟨rfl, rfl, rfl, by decide +kernel, rfl, by decide +kernel, by decide +kernel⟩
theorem ok_holds (T : Txt K mg a) : FnOk P w K mg base CX0 1 a.f_holds a.d_holds ["words", "amount"] sp_holds := by
  refine T.F_holds.ok sc_holds (fun vs H Q E h => ?_) (fun cdv A outer s H vs Q E hr h => ?_)
  · obtain ⟨p, n, L, S, rfl, _⟩ := h
    rfl
  · obtain ⟨p, n, L, S, rfl, ⟨us, hp, hR⟩, hn, k⟩ := h
    obtain ⟨u, hu, _, hb⟩ := hR.get hW hn
    refine ⟨_, pss_one (ps_ret (pe_cmpR op_eq (pe_op op_and (pe_op op_shr (pe_ix ix_list (pv 0) (pe_op op_fdiv (pv 1) (pe_gI T.g_WIDTH)) (fun _ _ => rfl)) (pe_op op_mod (pv 1) (pe_gI T.g_WIDTH))) pe_int) pe_int (nomark _))), ?_⟩
    refine ⟨_, rfl, _, rfl, _, _, rfl, rfl, ⟨by decide, by decide⟩, p, _, _, vN u, rfl, rfl, SqL.of hp, at_of (j := n / 1000) (by omega) (by rw [List.getElem?_map, hu]; rfl), ?_⟩
    refine ⟨_, rfl, _, _, rfl, rfl, (by show (0 : Int) < 1000; decide), _, _, rfl, rfl, by omega, _, _, rfl, rfl, rfl, ?_⟩
    rw [holds_eq, hb]
    exact k
/-! ### greatest -/
def sp_greatest : Sp := fun vs H Q _ => ∃ (p : Addr) (m : Nat) (S : Nat → Bool), vs = [.ref p, vN m] ∧ RepAt H p (m / 1000 + 1) S ∧ m ≤ 20000 ∧ S 0 = true ∧ Q (vN (most S m)) H
theorem sc_greatest : FnScope ["words", "limit", "place", "word"] ["words", "limit"] (defScope s_greatest) := ⟨rfl, rfl, rfl, by decide +kernel, rfl, by decide +kernel, by decide +kernel⟩
theorem mask_eq (u r : Nat) : Builtin.bitAnd (u : Int) (2 * 2 ^ r - 1) = ((u % 2 ^ (r + 1) : Nat) : Int) := by
  have e : (2 : Int) * 2 ^ r = 2 ^ (r + 1) := by rw [Int.pow_succ, Int.mul_comm]
  rw [e, Bits.bitAnd_mask _ (by omega), Int.natCast_emod, Int.natCast_pow]
  rfl
theorem bits_eq {w : Nat} (h : w ≠ 0) : (Builtin.Int.intBits (w : Int) : Int) = (w.log2 : Int) + 1 := by
  unfold Builtin.Int.intBits
  have : ((w : Int) == 0) = false := by simpa using h
  rw [this]
  simp
theorem ok_greatest (T : Txt K mg a) : FnOk P w K mg base CX0 1 a.f_greatest a.d_greatest ["words", "limit"] sp_greatest := by
  refine T.F_greatest.ok sc_greatest (fun vs H Q E h => ?_) (fun cdv A outer s H vs Q E hr h => ?_)
  · obtain ⟨p, n, S, rfl, _⟩ := h
    rfl
  · obtain ⟨p, m, S, rfl, ⟨us, hp, hR⟩, hm, h0, k⟩ := h
    have nd := sc_greatest.nd
    refine ⟨_, pss_cons (ps_set (i := 2) nd rfl (Or.inl rfl) (pe_op op_fdiv (pv 1) (pe_gI T.g_WIDTH)))
      (pss_cons (ps_set (i := 3) nd rfl (Or.inl rfl) (pe_op op_and (pe_ix ix_list (pv 0) (pv 2) (fun _ _ => rfl)) (pe_op op_sub (pe_op op_shl pe_int (pe_op op_mod (pv 1) (pe_gI T.g_WIDTH))) pe_int)))
      (pss_cons (ps_while PassesOwn.never (pt_cmpR op_eq (pv 3) pe_int (nomark _)) (pss_cons (ps_aug (i := 2) nd rfl (Or.inl rfl) pe_int ip_sub) (pss_one (ps_set (i := 3) nd rfl (Or.inl rfl) (pe_ix ix_list (pv 0) (pv 2) (fun _ _ => rfl))))))
      (pss_one (ps_ret (pe_op op_sub (pe_op op_add (pe_op op_mul (pv 2) (pe_gI T.g_WIDTH)) (pe_bm0 PySem.F.plainAttrs_int PySem.F.slot_int_bit_length PySem.F.type_int_bit_length mt_bits (pv 3))) pe_int))))), ?_⟩
    have hlen : us.length = m / 1000 + 1 := hR.len
    have hu : us[m / 1000]? = some us[m / 1000] := List.getElem?_eq_getElem (by omega)
    have g0 := ginv_start hW hR hu
    refine ⟨_, rfl, _, _, rfl, rfl, ⟨by decide, by decide⟩, ?_⟩
    refine ⟨_, rfl, _, rfl, p, _, _, vN us[m / 1000], rfl, rfl, SqL.of hp, at_of (j := m / 1000) (by omega) (by rw [List.getElem?_map, hu]; rfl), ?_⟩
    refine ⟨_, rfl, _, _, rfl, rfl, (by show (0 : Int) < 1000; decide), _, _, rfl, rfl, ⟨by omega, by omega, by decide⟩, _, _, rfl, rfl, _, _, rfl, rfl, ?_⟩
    have e1 : ((m : Int) % 1000).toNat = m % 1000 := by omega
    have e2 : (m : Int) / 1000 = ((m / 1000 : Nat) : Int) := by omega
    dsimp only
    rw [e1, mask_eq, e2]
    refine ⟨fun q σ H' => H' = H ∧ ∃ x : Nat, σ = [some (.ref p), some (vN m), some (vN q), some (vN x)] ∧ GInv 1000 S m q x, ⟨m / 1000, rfl, _, rfl, g0⟩, ?_⟩
    rintro q σ H' ⟨rfl, x, rfl, g⟩
    refine ⟨_, rfl, rfl, _, rfl, ?_⟩
    refine ite2 (fun hc => ?_) (fun hc => ?_)
    · have hx : x = 0 := by
        have := of_decide_eq_true hc
        injection this with this
        omega
      subst hx
      cases q with
      | zero => exact (ginv_zero hW g h0).elim
      | succ q =>
        have hq : q < us.length := by
          have := g.pl
          rw [hlen]
          omega
        have hu2 : us[q]? = some us[q] := List.getElem?_eq_getElem hq
        have e3 : (((q + 1 : Nat) : Int) - 1) = (q : Int) := by omega
        refine ⟨fun σ' H1 => H1 = H' ∧ ∃ x : Nat, σ' = [some (.ref p), some (vN m), some (vN q), some (vN x)] ∧ GInv 1000 S m q x, fun σ' H1 hN => ⟨q, Nat.lt_succ_self q, hN⟩, ?_⟩
        refine ⟨_, rfl, _, _, rfl, rfl, ?_⟩
        refine ⟨_, rfl, _, rfl, p, _, _, vN us[q], rfl, rfl, SqL.of hp, at_of (j := q) e3 (by rw [List.getElem?_map, hu2]; rfl), ?_⟩
        refine ⟨rfl, us[q], ?_, ginv_down hW hR g hu2⟩
        show [some (V.ref p), some (vN m), some (V.int (((q + 1 : Nat) : Int) - 1)), some (vN us[q])] = _
        rw [e3]
        rfl
    · have hx : x ≠ 0 := fun e => hc (by subst e; exact decide_eq_true rfl)
      have e4 := ginv_end hW g hx
      refine ⟨_, rfl, _, _, rfl, rfl, .inr ⟨by decide, by decide⟩, _, rfl, rfl, _, rfl, rfl, _, _, rfl, rfl, _, _, rfl, rfl, ?_⟩
      rw [bits_eq hx]
      have e5 : (q : Int) * 1000 + ((x.log2 : Int) + 1) - 1 = ((most S m : Nat) : Int) := by omega
      show Q (V.int ((q : Int) * 1000 + ((x.log2 : Int) + 1) - 1)) H'
      rw [e5]
      exact k
/-! ### raised -/
def sp_raised : Sp := fun vs H Q _ => ∃ (p : Addr) (m L : Nat) (S : Nat → Bool), vs = [.ref p, vN m] ∧ RepAt H p L S ∧ L ≤ 1000 ∧ ∀ (H' : Hp) (q : Addr), Same H H' → RepAt H' q L (fun n => decide (m ≤ n) && S (n - m)) → Q (.ref q) H'
theorem sc_raised : FnScope ["words", "more", "skipped", "shift", "full", "result", "carried", "word", "moved"] ["words", "more"] (defScope s_raised) := ⟨rfl, rfl, rfl, by decide +kernel, rfl, by decide +kernel, by decide +kernel⟩
theorem cut_take (us : List Nat) (n : Nat) : cutV (us.map vN) Option.none (some (n : Int)) = (us.take n).map vN := by
  unfold cutV
  rw [HT.sIx_none, HT.sIx_nat, List.drop_zero, Nat.sub_zero, List.map_take, List.length_map]
  by_cases h : n ≤ us.length
  · rw [Nat.min_eq_left h]
  · rw [Nat.min_eq_right (by omega), List.take_of_length_le (by rw [List.length_map]; exact Nat.le_refl _), List.take_of_length_le (by rw [List.length_map]; omega)]
theorem moved_eq {u s c : Nat} (hc : c < 2 ^ s) : Builtin.bitOr ((u : Int) * 2 ^ ((s : Int)).toNat) (c : Int) = ((u * 2 ^ s + c : Nat) : Int) := by
  rw [Int.toNat_natCast, Bits.bitOr_join' (by omega) (by rw [two_pow_cast]; exact Int.ofNat_lt.mpr hc) (by omega), Bits.natCast_mul_pow]
  omega
theorem full_eq (x : Nat) : Builtin.bitAnd (x : Int) (1 * 2 ^ (1000 : Int).toNat - 1) = ((x % 2 ^ 1000 : Nat) : Int) := by
  have e : (1 : Int) * 2 ^ (1000 : Int).toNat - 1 = 2 ^ 1000 - 1 := by
    rw [Int.one_mul]; rfl
  rw [e, Bits.bitAnd_mask _ (by omega), Int.natCast_emod, Int.natCast_pow]
  rfl
theorem shr_eq (x : Nat) : (x : Int) / 2 ^ (1000 : Int).toNat = ((x / 2 ^ 1000 : Nat) : Int) := by
  rw [Int.natCast_ediv, Int.natCast_pow]
  rfl
theorem ok_raised (T : Txt K mg a) : FnOk P w K mg base CX0 1 a.f_raised a.d_raised ["words", "more"] sp_raised := by
  refine T.F_raised.ok sc_raised (fun vs H Q E h => ?_) (fun cdv A outer s H vs Q E hr h => ?_)
  · obtain ⟨p, n, L, S, rfl, _⟩ := h
    rfl
  · obtain ⟨p, m, L, S, rfl, ⟨us, hp, hR⟩, hL, k⟩ := h
    have nd := sc_raised.nd
    refine ⟨_, pss_cons (ps_set (i := 2) nd rfl (Or.inl rfl) (pe_callB (call_min2 rfl) (by rfl) T.n_min boot_min (pa_cons (pe_op op_fdiv (pv 1) (pe_gI T.g_WIDTH)) (pa_cons (pe_callB call_len_seq (by rfl) T.n_len PySem.boot_len (pa_cons (pv 0) pa_nil)) pa_nil))))
      (pss_cons (ps_set (i := 3) nd rfl (Or.inl rfl) (pe_op op_mod (pv 1) (pe_gI T.g_WIDTH)))
      (pss_cons (ps_set (i := 4) nd rfl (Or.inl rfl) (pe_op op_sub (pe_op op_shl pe_int (pe_gI T.g_WIDTH)) pe_int))
      (pss_cons (ps_set (i := 5) nd rfl (Or.inl rfl) (pe_op op_rep (pe_lst (pa_cons pe_int pa_nil)) (pv 2)))
      (pss_cons (ps_set (i := 6) nd rfl (Or.inl rfl) pe_int)
      (pss_cons (ps_for PassesOwn.never rfl (pi_list (pe_slice sl_list (pv 0) po_none (po_some (pe_op op_sub (pe_callB call_len_seq (by rfl) T.n_len PySem.boot_len (pa_cons (pv 0) pa_nil)) (pv 2))))) (pg_name (i := 7) nd rfl (Or.inl rfl))
        (pss_cons (ps_set (i := 8) nd rfl (Or.inl rfl) (pe_op op_or (pe_op op_shlB (pv 7) (pv 3)) (pv 6)))
        (pss_cons (ps_expr (pe_bm PySem.F.plainAttrs_list PySem.F.slot_list_append PySem.F.type_list_append mt_append (pv 5) (pa_cons (pe_op op_and (pv 8) (pv 4)) pa_nil)))
        (pss_one (ps_set (i := 6) nd rfl (Or.inl rfl) (pe_op op_shr (pv 8) (pe_gI T.g_WIDTH)))))))
      (pss_one (ps_ret (pv 5)))))))), ?_⟩
    have hs := szl
    have hlen : us.length = L := hR.len
    have hsk : (if ((us.map vN).length : Int) < (m : Int) / 1000 then ((us.map vN).length : Int) else (m : Int) / 1000) = ((min (m / 1000) L : Nat) : Int) := by
      rw [List.length_map, hlen]
      split <;> omega
    generalize hskd : min (m / 1000) L = sk at hsk
    have hskL : sk ≤ L := by omega
    -- skipped, shift, full, result, carried
    refine ⟨_, rfl, _, _, rfl, rfl, ⟨by decide, by decide⟩, _, rfl, p, _, rfl, .inl (SqL.of hp), _, _, rfl, ?_⟩
    rw [hsk]
    refine ⟨_, rfl, _, _, rfl, rfl, (by show (0 : Int) < 1000; decide), ?_⟩
    refine ⟨_, _, rfl, rfl, ⟨by decide, by decide, by decide⟩, _, _, rfl, rfl, ?_⟩
    refine ⟨by show 1 ≤ sizeLine; omega, fun x hx => ?_⟩
    refine ⟨_, rfl, x, _, _, rfl, rfl, upd_same, by omega, by omega, (by show 1 * (sk : Int).toNat ≤ sizeLine; omega), fun q hq => ?_⟩
    have e1 : ((List.replicate (sk : Int).toNat [V.int 0]).flatten) = (List.replicate sk 0).map vN := by
      rw [flat_one, Int.toNat_natCast, List.map_replicate]; rfl
    rw [e1]
    have s1 : Same H (upd (upd H x (.lst [V.int 0])) q (.lst ((List.replicate sk 0).map vN))) := (same_new hx).trans (same_new hq)
    generalize hH2 : upd (upd H x (.lst [V.int 0])) q (.lst ((List.replicate sk 0).map vN)) = H2 at s1
    have hq2 : H2 q = some (.lst ((List.replicate sk 0).map vN)) := by rw [← hH2]; exact upd_same
    have hqH : H q = Option.none := (same_new hx).free hq
    -- the loop's list
    refine ⟨_, rfl, _, rfl, p, _, rfl, .inl (SqL.of (s1 _ _ hp)), _, rfl, _, _, rfl, rfl, _, rfl, p, _, rfl, SqL.of (s1 _ _ hp), fun y hy => ?_⟩
    have e2 : ((us.map vN).length : Int) - (sk : Int) = ((L - sk : Nat) : Int) := by rw [List.length_map, hlen]; omega
    rw [e2, cut_take]
    have e3 : (m : Int) % 1000 = ((m % 1000 : Nat) : Int) := by omega
    have hr3 : m % 1000 < 1000 := Nat.mod_lt _ (by decide)
    generalize hsd : m % 1000 = sh at hr3 e3
    have qy : q ≠ y := ne_of_none hq2 hy
    have hyl : ∀ u ∈ us.take (L - sk), u < 2 ^ 1000 := fun u hu => hR.lt u (List.mem_of_mem_take hu)
    refine ⟨y, rfl, ⟨_, SqL.of upd_same⟩, for_list (K := K) (a := y) (xs := (us.take (L - sk)).map vN) (fun i σ H' => ∃ v7 v8 : Option V, ∃ st : List Nat × Nat,
      σ = [some (.ref p), some (vN m), some (vN sk), some (vN sh), some (.int (1 * 2 ^ (1000 : Int).toNat - 1)), some (.ref q), some (vN st.2), v7, v8] ∧ Same H H' ∧ H' y = some (.lst ((us.take (L - sk)).map vN)) ∧ H' q = some (.lst (st.1.map vN)) ∧
      RInv 1000 sk sh ((us.take (L - sk)).take i) st ∧ st = ((us.take (L - sk)).take i).foldl (rstep 1000 sh) (List.replicate sk 0, 0))
      ⟨Option.none, Option.none, (List.replicate sk 0, 0), (by
        show [some (V.ref p), some (vN m), some (V.int (sk : Int)), some (V.int ((m : Int) % 1000)), some (V.int (1 * 2 ^ (1000 : Int).toNat - 1)), some (V.ref q), some (V.int 0), Option.none, Option.none] = _
        rw [e3]
        rfl), s1.trans (same_new hy), upd_same, by rw [upd_ne qy]; exact hq2, rinv_nil _ _, rfl⟩ (fun i σ H' _ h => by
        obtain ⟨_, _, _, _, _, h, _⟩ := h
        exact SqL.of h) ?_ ?_⟩
    · rintro i z σ H' hi ⟨v7, v8, st, rfl, s3, hy3, hq3, hI, hst⟩
      obtain ⟨u, hu, rfl⟩ : ∃ u, (us.take (L - sk))[i]? = some u ∧ z = vN u := by
        rw [List.getElem?_map] at hi
        cases e : (us.take (L - sk))[i]? with
        | none => rw [e] at hi; cases hi
        | some u => rw [e] at hi; exact ⟨u, rfl, (Option.some.inj hi).symm⟩
      have hub := hyl u (List.mem_of_getElem? hu)
      have hI2 := rinv_step hW hr3 hI hub
      have hlen3 := hI.len
      refine ⟨_, rfl, _, rfl, _, _, rfl, rfl, ⟨by omega, by omega, by rw [Int.natAbs_natCast]; exact hub⟩, _, rfl, _, _, rfl, rfl, ?_⟩
      dsimp only
      rw [moved_eq hI.cl]
      refine ⟨_, rfl, .inl ⟨rfl, _, SqL.of hq3⟩, _, rfl, _, rfl, _, _, rfl, rfl, ?_⟩
      dsimp only
      rw [full_eq]
      refine ⟨q, _, _, rfl, rfl, hq3, ?_, ?_⟩
      · rw [List.length_map, hlen3, List.length_take, List.length_take]; omega
      · refine ⟨_, rfl, _, _, rfl, rfl, (by show (0 : Int) ≤ 1000; decide), ?_⟩
        dsimp only
        rw [shr_eq]
        refine ⟨_, _, rstep 1000 sh st u, rfl, fun b o e => ?_, ?_, ?_, ?_, ?_⟩
        · rw [upd_ne (ne_of_none e hqH)]; exact s3 b o e
        · rw [upd_ne (Ne.symm qy)]; exact hy3
        · rw [upd_same]
          show _ = some (HO.lst ((st.1 ++ [(u * 2 ^ sh + st.2) % 2 ^ 1000]).map vN))
          rw [List.map_append]
          rfl
        · rw [take_succ hu]; exact hI2
        · rw [take_succ hu, List.foldl_append, ← hst]; rfl
    · rintro σ H' ⟨v7, v8, st, rfl, s3, hy3, hq3, hI, hst⟩
      refine ⟨_, rfl, k H' q s3 ⟨st.1, hq3, ?_⟩⟩
      have := rep_raised hW hR m
      rw [hskd, hsd] at this
      rw [List.length_map, List.take_length] at hst
      rw [hst]
      exact this
end
end Hs
end
section
set_option Elab.async false
set_option linter.all false
set_option maxRecDepth 100000
set_option maxHeartbeats 4000000
namespace Hs
open PySem PySem.Spec PyProof.Rows L2
section
variable {P : Program} {w : World} {K : PySem.W.Frag} {mg : Str → Option Value} {base : Heap} {a : Ad}
/-! ### with_kind -/
def orV : V → V → V
  | .int i, .int j => .int (Builtin.bitOr i j)
  | _, _ => .non
theorem or_words (us vs : List Nat) : List.zipWith orV (us.map vN) (vs.map vN) = (List.zipWith (fun x y => x ||| y) us vs).map vN := by
  rw [List.zipWith_map, List.map_zipWith]
  congr 1
  funext x y
  show V.int (Builtin.bitOr (x : Int) (y : Int)) = V.int ((x ||| y : Nat) : Int)
  rw [Bits.bitOr_pp (by omega) (by omega), Int.toNat_natCast, Int.toNat_natCast]
def sp_with_kind : Sp := fun vs H Q _ => ∃ (p : Addr) (v c L : Nat) (S : Nat → Bool), vs = [.ref p, vN v, vN c] ∧ RepAt H p L S ∧ L ≤ 1000 ∧ v ≤ 10000 ∧ c ≤ 10000 ∧ ∀ (H' : Hp) (q : Addr), Same H H' → RepAt H' q L (upto S v c) → Q (.ref q) H'
theorem sc_with_kind : FnScope ["words", "value", "count", "result", "coins", "left", "step", "one", "other"] ["words", "value", "count"] (defScope s_with_kind) := ⟨rfl, rfl, rfl, by decide +kernel, rfl, by decide +kernel, by decide +kernel⟩
theorem ok_with_kind (T : Txt K mg a) : FnOk P w K mg base CX0 2 a.f_with_kind a.d_with_kind ["words", "value", "count"] sp_with_kind := by
  refine T.F_with_kind.ok sc_with_kind (fun vs H Q E h => ?_) (fun cdv A outer s H vs Q E hr h => ?_)
  · obtain ⟨p, v, c, L, S, rfl, _⟩ := h
    rfl
  · obtain ⟨p, v, c, L, S, rfl, hR, hL, hv, hc, k⟩ := h
    have nd := sc_with_kind.nd
    refine ⟨_, pss_cons (ps_set (i := 3) nd rfl (Or.inl rfl) (pv 0))
      (pss_cons (ps_set (i := 4) nd rfl (Or.inl rfl) pe_int)
      (pss_cons (ps_set (i := 5) nd rfl (Or.inl rfl) (pv 2))
      (pss_cons (ps_while PassesOwn.never (pt_cmpR op_gt (pv 5) pe_int (nomark _))
        (pss_cons (ps_set (i := 6) nd rfl (Or.inl rfl) (pe_callB (call_min2 rfl) (by rfl) T.n_min boot_min (pa_cons (pv 4) (pa_cons (pv 5) pa_nil))))
        (pss_cons (ps_setLc (i := 3) (own := [("one", 7), ("other", 8)]) (g := gTup K 2 (gCons (gName 7) (gCons (gName 8) gNil))) rfl nd rfl rfl (sw_true rfl rfl rfl (by decide +kernel))
          (pi_zip (by rfl) T.n_zip (pa_cons (pv 3) (pa_cons (pe_call (ok_raised T) hr rfl T.mg_raised T.F_raised.kp T.b_raised .nil pass0 (pa_cons (pv 3) (pa_cons (pe_op op_mul (pv 6) (pv 1)) pa_nil))) pa_nil)))
          (blkOk_by (by kernel_rfl))
          (fun _ _ _ _ _ => pg_tup rfl (pgs_cons (pg_name (i := 7) nd rfl (Or.inl rfl) (Or.inr rfl)) (pgs_cons (pg_name (i := 8) nd rfl (Or.inl rfl) (Or.inr rfl)) pgs_nil)))
          (fun _ _ _ _ _ => pts_nil) (fun _ _ _ _ _ => pe_op op_or (pv 7) (pv 8)))
        (pss_cons (ps_aug (i := 5) nd rfl (Or.inl rfl) (pv 6) ip_sub)
        (pss_one (ps_aug (i := 4) nd rfl (Or.inl rfl) pe_int iop_mul))))))
      (pss_one (ps_ret (pv 3)))))), ?_⟩
    refine ⟨_, rfl, ?_⟩
    refine ⟨_, rfl, ?_⟩
    refine ⟨fun l σ H' => ∃ (d e : Nat) (q : Addr) (v6 v7 v8 : Option V), σ = [some (.ref p), some (vN v), some (vN c), some (.ref q), some (vN e), some (vN l), v6, v7, v8] ∧ d + l = c ∧ (l = 0 ∨ e = d + 1) ∧ Same H H' ∧ RepAt H' q L (upto S v d),
      ⟨c, 0, 1, p, _, _, _, rfl, by omega, .inr rfl, Same.refl H, hR.congr fun n _ => upto_zero.symm⟩, ?_⟩
    rintro l σ H' ⟨d, e, q, v6, v7, v8, rfl, hd, he, s1, hq⟩
    refine ⟨_, rfl, _, _, rfl, rfl, _, rfl, ?_⟩
    refine ite2 (fun hc => ?_) (fun hc => ?_)
    · have hl : 0 < l := by
        have := of_decide_eq_true hc
        omega
      have he' : e = d + 1 := by omega
      subst he'
      have est : (if ((l : Int)) < ((d + 1 : Nat) : Int) then (l : Int) else ((d + 1 : Nat) : Int)) = ((min (d + 1) l : Nat) : Int) := by
        split <;> omega
      generalize hst : min (d + 1) l = st at est
      have hst1 : 1 ≤ st := by omega
      have hst2 : st ≤ d + 1 := by omega
      have hst3 : st ≤ l := by omega
      refine ⟨fun σ' H' => ∃ (d' e : Nat) (q : Addr) (v6 v7 v8 : Option V), σ' = [some (.ref p), some (vN v), some (vN c), some (.ref q), some (vN e), some (vN (l - st)), v6, v7, v8] ∧ d' + (l - st) = c ∧ ((l - st) = 0 ∨ e = d' + 1) ∧ Same H H' ∧ RepAt H' q L (upto S v d'),
        fun σ' H' h => ⟨l - st, by omega, h⟩, ?_⟩
      refine ⟨_, rfl, _, rfl, _, _, rfl, ?_⟩
      rw [est]
      refine ⟨_, rfl, _, rfl, _, rfl, _, rfl, _, _, rfl, rfl, .inr ⟨by omega, by omega⟩, q, st * v, L, _, rfl, hq, hL, fun H2 r s2 hr2 => ?_⟩
      obtain ⟨us, hus, hU⟩ := hq
      obtain ⟨ws, hws, hWs⟩ := hr2
      refine ⟨q, r, _, _, rfl, SqL.of (s2 _ _ hus), SqL.of hws, fun D hD => lc_zip_pure (f := orV) (SqL.of (s2 _ _ hus)) (SqL.of hws) hD (.inl ?_) (fun _ _ => rfl) (fun x y hx hy H3 Q3 s3 q3 => ?_) fun H3 s3 hD3 => ?_⟩
      · rw [List.length_map, hU.len]; have := szl; omega
      · obtain ⟨x', _, rfl⟩ := List.mem_map.mp hx
        obtain ⟨y', _, rfl⟩ := List.mem_map.mp hy
        exact ⟨_, rfl, _, rfl, _, _, rfl, rfl, q3⟩
      · rw [or_words] at hD3
        refine ⟨_, rfl, _, rfl, _, _, rfl, rfl, ?_⟩
        refine ⟨_, rfl, _, _, rfl, rfl, .inr ⟨by decide, by decide⟩, ?_⟩
        have e1 : (l : Int) - (st : Int) = ((l - st : Nat) : Int) := by omega
        have e2 : ((d + 1 : Nat) : Int) * 2 = (((d + 1) * 2 : Nat) : Int) := by omega
        refine ⟨d + st, (d + 1) * 2, D, some (V.int (st : Int)), v7, v8, ?_, by omega, by omega, (s1.trans s2).trans s3, _, hD3, (rep_or hW hU hWs).congr fun n _ => upto_step hst2⟩
        show [some (V.ref p), some (vN v), some (vN c), some (V.ref D), some (V.int (((d + 1 : Nat) : Int) * 2)), some (V.int ((l : Int) - (st : Int))), _, _, _] = _
        rw [e1, e2]
        rfl
    · have hl : l = 0 := by
        cases l with
        | zero => rfl
        | succ l => exact absurd (decide_eq_true (by omega)) hc
      subst hl
      have hd : d = c := by omega
      subst hd
      exact ⟨_, rfl, k H' q s1 hq⟩
/-! ### tails, payable -/
structure CoinsAt (H : Hp) (pv' pc : Addr) (c : Kp122.Coins) : Prop where
  val : H pv' = some (.lst (c.map fun x => vN x.1))
  cnt : H pc = some (.lst (c.map fun x => vN x.2))
  pos : CPos c
  v : ∀ x ∈ c, x.1 ≤ 10000
  n : ∀ x ∈ c, x.2 ≤ 10000
  len : c.length ≤ 8
theorem CoinsAt.same {H H' : Hp} {p q : Addr} {c : Kp122.Coins} (h : CoinsAt H p q c) (s : Same H H') : CoinsAt H' p q c := ⟨s _ _ h.val, s _ _ h.cnt, h.pos, h.v, h.n, h.len⟩
theorem ref_int {as : List Addr} {us : List Nat} (h : 0 < as.length) (e : as.map V.ref = us.map vN) : False := by
  have h1 := congrArg (fun l => l[0]?) e
  simp only [List.getElem?_map] at h1
  rw [List.getElem?_eq_getElem h] at h1
  cases hu : us[0]? with
  | none => rw [hu] at h1; cases h1
  | some u =>
    rw [hu] at h1
    have h2 : V.ref as[0] = V.int (u : Int) := Option.some.inj h1
    cases h2
def sp_tails : Sp := fun vs H Q _ => ∃ (p q : Addr) (c : Kp122.Coins) (m : Nat), vs = [.ref p, .ref q, vN m] ∧ CoinsAt H p q c ∧ m ≤ 20000 ∧
  ∀ (H' : Hp) (r : Addr) (as : List Addr), Same H H' → H' r = some (.lst (as.map V.ref)) → as.length = c.length + 1 → (∀ k x, as[k]? = some x → RepAt H' x (m / 1000 + 1) (Kp122.canPay (c.drop k))) → Q (.ref r) H'
theorem sc_tails : FnScope ["value", "count", "limit", "result", "kind"] ["value", "count", "limit"] (defScope s_tails) := ⟨rfl, rfl, rfl, by decide +kernel, rfl, by decide +kernel, by decide +kernel⟩
theorem ok_tails (T : Txt K mg a) : FnOk P w K mg base CX0 3 a.f_tails a.d_tails ["value", "count", "limit"] sp_tails := by
  refine T.F_tails.ok sc_tails (fun vs H Q E h => ?_) (fun cdv A outer s H vs Q E hr h => ?_)
  · obtain ⟨p, q, c, m, rfl, _⟩ := h
    rfl
  · obtain ⟨p, q, c, m, rfl, hC, hm, k⟩ := h
    have nd := sc_tails.nd
    have hr1 : Room 1 _ := hr.mono (by decide)
    refine ⟨_, pss_cons (ps_set (i := 3) nd rfl (Or.inl rfl) (pe_lst (pa_cons (pe_call (ok_only_nothing T) hr1 rfl T.mg_only_nothing T.F_only_nothing.kp T.b_only_nothing .nil pass0 (pa_cons (pv 2) pa_nil)) pa_nil)))
      (pss_cons (ps_for PassesOwn.never rfl (pi_range3 (by rfl) T.n_range (pa_cons (pe_op op_sub (pe_callB call_len_seq (by rfl) T.n_len PySem.boot_len (pa_cons (pv 0) pa_nil)) pe_int) (pa_cons (pe_un un_neg pe_int) (pa_cons (pe_un un_neg pe_int) pa_nil)))) (pg_name (i := 4) nd rfl (Or.inl rfl))
        (pss_one (ps_expr (pe_bm PySem.F.plainAttrs_list PySem.F.slot_list_append PySem.F.type_list_append mt_append (pv 3) (pa_cons (pe_call (ok_with_kind T) hr rfl T.mg_with_kind T.F_with_kind.kp T.b_with_kind .nil pass0
          (pa_cons (pe_ix ix_list (pv 3) (pe_un un_neg pe_int) (fun _ _ => rfl)) (pa_cons (pe_ix ix_list (pv 0) (pv 4) (fun _ _ => rfl)) (pa_cons (pe_ix ix_list (pv 1) (pv 4) (fun _ _ => rfl)) pa_nil)))) pa_nil)))))
      (pss_cons (ps_expr (pe_bm0 PySem.F.plainAttrs_list PySem.F.slot_list_reverse PySem.F.type_list_reverse mt_reverse (pv 3)))
      (pss_one (ps_ret (pv 3))))), ?_⟩
    have hs := szl
    refine ⟨_, rfl, m, rfl, hm, fun H1 x s1 hx => ⟨by show 1 ≤ sizeLine; omega, fun r hr1 => ?_⟩⟩
    have hrH : H r = Option.none := s1.free hr1
    have n8 := hC.len
    refine ⟨_, rfl, p, _, rfl, .inl (SqL.of ((s1.trans (same_new hr1)) _ _ hC.val)), _, _, rfl, rfl, _, rfl, _, rfl, _, _, _, c.length, rfl, ?_, for_rangeC (fun i σ H' => ∃ (v4 : Option V) (as : List Addr), σ = [some (.ref p), some (.ref q), some (vN m), some (.ref r), v4] ∧ Same H H' ∧ H' r = some (.lst (as.map V.ref)) ∧ as.length = i + 1 ∧ i ≤ c.length ∧ ∀ k x, as[k]? = some x → RepAt H' x (m / 1000 + 1) (Kp122.canPay (c.drop (c.length - k))))
      ⟨_, [x], rfl, s1.trans (same_new hr1), upd_same, rfl, Nat.zero_le _, fun k y hk => ?_⟩ ?_ ?_⟩
    · have := RgC.neg (i := ((c.map fun x => vN x.1).length : Int) - 1) (j := -1) (by rw [List.length_map]; omega) (by rw [List.length_map]; omega) (by decide) (by decide)
      have e : ((((c.map fun x => vN x.1).length : Int) - 1) - -1).toNat = c.length := by rw [List.length_map]; omega
      rw [e] at this
      exact this
    · cases k with
      | zero =>
        cases hk
        refine (hx.same (same_new hr1)).congr fun n _ => ?_
        rw [Nat.sub_zero, List.drop_length]
        rfl
      | succ k => simp at hk
    · rintro i σ H' hi ⟨v4, as, rfl, s2, hr2, hlen, hle, hall⟩
      have ha : as[i]? = some as[i] := List.getElem?_eq_getElem (by omega)
      have hlast : as.map V.ref = (as.take i).map V.ref ++ [V.ref as[i]] := by
        have e1 : as = as.take i ++ [as[i]] := by
          rw [← take_succ ha, List.take_of_length_le (by omega)]
        conv => lhs; rw [e1]
        rw [List.map_append]; rfl
      obtain ⟨j, hj⟩ : ∃ j, c.length = i + 1 + j := ⟨c.length - (i + 1), by omega⟩
      have hg : c[j]? = some c[j] := List.getElem?_eq_getElem (by omega)
      have hm1 : c[j] ∈ c := List.mem_of_getElem? hg
      have ej : ((c.map fun x => vN x.1).length : Int) - 1 + (i : Int) * -1 = (j : Int) := by rw [List.length_map]; omega
      refine ⟨_, rfl, .inl ⟨rfl, _, SqL.of hr2⟩, _, rfl, _, rfl, r, _, _, V.ref as[i], rfl, rfl, SqL.of hr2, (by rw [hlast]; exact atI_last _ _), ?_⟩
      refine ⟨_, rfl, _, rfl, p, _, _, vN c[j].1, rfl, rfl, SqL.of (s2 _ _ hC.val), at_of (j := j) ej (by rw [List.getElem?_map, hg]; rfl), ?_⟩
      refine ⟨_, rfl, _, rfl, q, _, _, vN c[j].2, rfl, rfl, SqL.of (s2 _ _ hC.cnt), at_of (j := j) ej (by rw [List.getElem?_map, hg]; rfl), ?_⟩
      refine ⟨as[i], c[j].1, c[j].2, m / 1000 + 1, _, rfl, hall i _ ha, by omega, hC.v _ hm1, hC.n _ hm1, fun H3 y s3 hy => ?_⟩
      refine ⟨r, _, _, rfl, rfl, s3 _ _ hr2, by rw [List.length_map]; omega, ?_⟩
      refine ⟨_, as ++ [y], rfl, fun b o e => ?_, ?_, by rw [List.length_append]; show as.length + 1 = _; omega, by omega, fun k' z hk' => ?_⟩
      · rw [upd_ne (ne_of_none e hrH)]; exact s3 _ _ (s2 b o e)
      · rw [upd_same, List.map_append]; rfl
      · have old : ∀ {z : Addr} {S : Nat → Bool}, RepAt H3 z (m / 1000 + 1) S → RepAt (upd H3 r (.lst (as.map V.ref ++ [V.ref y]))) z (m / 1000 + 1) S := fun {z S} ⟨us, h1, h2⟩ => ⟨us, by
          by_cases hzr : z = r
          · subst hzr
            rw [s3 _ _ hr2] at h1
            have h1 := Option.some.inj h1
            injection h1 with h1
            exact (ref_int (by omega) h1).elim
          · rw [upd_ne hzr]; exact h1, h2⟩
        rw [List.getElem?_append] at hk'
        by_cases hkl : k' < as.length
        · rw [if_pos hkl] at hk'
          exact old ((hall k' z hk').same s3)
        · rw [if_neg hkl] at hk'
          have e0 : k' - as.length = 0 := by
            cases hk0 : k' - as.length with
            | zero => rfl
            | succ n => rw [hk0] at hk'; simp at hk'
          rw [e0] at hk'
          cases hk'
          have ek : k' = i + 1 := by omega
          refine (old hy).congr fun n _ => ?_
          have ed : c.drop (c.length - k') = (c[j].1, c[j].2) :: c.drop (c.length - i) := by
            rw [show c.length - k' = j by omega, show c.length - i = j + 1 by omega]
            exact List.drop_eq_getElem_cons (by omega)
          rw [ed, canPay_upto (hC.pos _ hm1)]
    · rintro σ H' ⟨v4, as, rfl, s2, hr2, hlen, hle, hall⟩
      refine ⟨_, rfl, .inl ⟨rfl, _, SqL.of hr2⟩, r, _, rfl, rfl, hr2, ?_⟩
      refine ⟨_, rfl, k _ r as.reverse (fun b o e => by rw [upd_ne (ne_of_none e hrH)]; exact s2 b o e) (by rw [upd_same, List.map_reverse]) (by rw [List.length_reverse, hlen]) fun k' z hk' => ?_⟩
      have hk2 : k' < as.reverse.length := (List.getElem?_eq_some_iff.mp hk').1
      rw [List.length_reverse] at hk2
      rw [List.getElem?_reverse hk2] at hk'
      obtain ⟨us, h1, h2⟩ := hall _ z hk'
      refine ⟨us, ?_, h2.congr fun n _ => ?_⟩
      · rw [upd_ne]
        · exact h1
        · intro hzr
          subst hzr
          rw [hr2] at h1
          have h1 := Option.some.inj h1
          injection h1 with h1
          exact (ref_int (by omega) h1).elim
      · rw [show c.length - (as.length - 1 - k') = k' by omega]
def sp_payable : Sp := fun vs H Q _ => ∃ (p q : Addr) (c : Kp122.Coins) (m : Nat), vs = [.ref p, .ref q, vN m] ∧ CoinsAt H p q c ∧ m ≤ 20000 ∧
  ∀ (H' : Hp) (r : Addr), Same H H' → RepAt H' r (m / 1000 + 1) (Kp122.canPay c) → Q (.ref r) H'
theorem sc_payable : FnScope ["value", "count", "limit"] ["value", "count", "limit"] (defScope s_payable) := ⟨rfl, rfl, rfl, by decide +kernel, rfl, by decide +kernel, by decide +kernel⟩
theorem ok_payable (T : Txt K mg a) : FnOk P w K mg base CX0 4 a.f_payable a.d_payable ["value", "count", "limit"] sp_payable := by
  refine T.F_payable.ok sc_payable (fun vs H Q E h => ?_) (fun cdv A outer s H vs Q E hr h => ?_)
  · obtain ⟨p, q, c, m, rfl, _⟩ := h
    rfl
  · obtain ⟨p, q, c, m, rfl, hC, hm, k⟩ := h
    refine ⟨_, pss_one (ps_ret (pe_ix ix_list (pe_call (ok_tails T) hr rfl T.mg_tails T.F_tails.kp T.b_tails .nil pass0 (pa_cons (pv 0) (pa_cons (pv 1) (pa_cons (pv 2) pa_nil)))) pe_int (fun _ _ => rfl))), ?_⟩
    refine ⟨_, rfl, _, rfl, _, rfl, p, q, c, m, rfl, hC, hm, fun H' r as s1 hr1 hlen hall => ?_⟩
    have ha : as[0]? = some as[0] := List.getElem?_eq_getElem (by omega)
    refine ⟨r, _, _, V.ref as[0], rfl, rfl, SqL.of hr1, atI_nat (j := 0) (by rw [List.getElem?_map, ha]; rfl), ?_⟩
    have := hall 0 _ ha
    rw [List.drop_zero] at this
    exact k H' _ s1 this
/-! ### most_coins -/
def sp_most_coins : Sp := fun vs H Q _ => ∃ (p : Addr) (v c n L : Nat) (S : Nat → Bool), vs = [.ref p, vN v, vN c, vN n] ∧ RepAt H p L S ∧ n < L * 1000 ∧ 1 ≤ v ∧ v ≤ 10000 ∧ (∃ i, i ≤ min c (n / v) ∧ S (n - i * v) = true) ∧
  Q (vN (most (fun i => S (n - i * v)) (min c (n / v)))) H
theorem sc_most_coins : FnScope ["tail", "value", "count", "amount", "coins"] ["tail", "value", "count", "amount"] (defScope s_most_coins) := ⟨rfl, rfl, rfl, by decide +kernel, rfl, by decide +kernel, by decide +kernel⟩
theorem ok_most_coins (T : Txt K mg a) : FnOk P w K mg base CX0 2 a.f_most_coins a.d_most_coins ["tail", "value", "count", "amount"] sp_most_coins := by
  refine T.F_most_coins.ok sc_most_coins (fun vs H Q E h => ?_) (fun cdv A outer s H vs Q E hr h => ?_)
  · obtain ⟨p, v, c, n, L, S, rfl, _⟩ := h
    rfl
  · obtain ⟨p, v, c, n, L, S, rfl, hR, hn, hv, hv2, ⟨i, hi, hSi⟩, k⟩ := h
    have nd := sc_most_coins.nd
    refine ⟨_, pss_cons (ps_set (i := 4) nd rfl (Or.inl rfl) (pe_callB (call_min2 rfl) (by rfl) T.n_min boot_min (pa_cons (pv 2) (pa_cons (pe_op op_fdiv (pv 3) (pv 1)) pa_nil))))
      (pss_cons (ps_while PassesOwn.never (pt_not (pt_truth (pe_call (ok_holds T) hr rfl T.mg_holds T.F_holds.kp T.b_holds .nil pass0 (pa_cons (pv 0) (pa_cons (pe_op op_sub (pv 3) (pe_op op_mul (pv 4) (pv 1))) pa_nil))) (fun _ => rfl)))
        (pss_one (ps_aug (i := 4) nd rfl (Or.inl rfl) pe_int ip_sub)))
      (pss_one (ps_ret (pv 4)))), ?_⟩
    have emin : (if (n : Int) / (v : Int) < (c : Int) then (n : Int) / (v : Int) else (c : Int)) = ((min c (n / v) : Nat) : Int) := by
      rw [← Int.natCast_ediv]
      generalize n / v = q
      split <;> omega
    have hiv : ∀ j, j ≤ min c (n / v) → j * v ≤ n := fun j hj => ((cand hv).mp hj).2
    generalize hM : min c (n / v) = M at *
    refine ⟨_, rfl, _, rfl, _, rfl, _, _, rfl, rfl, ⟨by omega, by omega⟩, _, _, rfl, ?_⟩
    rw [emin]
    refine ⟨fun j σ H' => H' = H ∧ σ = [some (.ref p), some (vN v), some (vN c), some (vN n), some (vN j)] ∧ j ≤ M ∧ i ≤ j ∧ most (fun i => S (n - i * v)) j = most (fun i => S (n - i * v)) M, ⟨M, rfl, rfl, Nat.le_refl _, hi, rfl⟩, ?_⟩
    rintro j σ H' ⟨rfl, rfl, hj, hij, hmo⟩
    have hjv := hiv j hj
    have esub : (n : Int) - (j : Int) * (v : Int) = ((n - j * v : Nat) : Int) := by
      rw [← Int.natCast_mul]; omega
    refine ⟨_, rfl, _, rfl, _, rfl, _, rfl, _, _, rfl, rfl, .inr ⟨by omega, by omega⟩, _, _, rfl, rfl, p, n - j * v, L, S, (by
      show [V.ref p, V.int ((n : Int) - (j : Int) * (v : Int))] = _
      rw [esub]
      rfl), hR, by omega, _, rfl, ?_⟩
    cases hS : S (n - j * v) with
    | true =>
      refine iteF ⟨_, rfl, ?_⟩
      have : most (fun i => S (n - i * v)) j = j := most_eq (Nat.le_refl _) hS fun _ h _ => h
      rw [← hmo, this] at k
      exact k
    | false =>
      refine iteT ?_
      have hne : i ≠ j := fun e => by
        subst e
        rw [hSi] at hS
        cases hS
      obtain ⟨j', rfl⟩ : ∃ j', j = j' + 1 := ⟨j - 1, by omega⟩
      refine ⟨fun σ' H1 => H1 = H' ∧ σ' = [some (.ref p), some (vN v), some (vN c), some (vN n), some (vN j')] ∧ j' ≤ M ∧ i ≤ j' ∧ most (fun i => S (n - i * v)) j' = most (fun i => S (n - i * v)) M, fun σ' H1 h => ⟨j', Nat.lt_succ_self _, h⟩, ?_⟩
      refine ⟨_, rfl, _, _, rfl, rfl, rfl, ?_, by omega, by omega, ?_⟩
      · show [some (V.ref p), some (vN v), some (vN c), some (vN n), some (V.int (((j' + 1 : Nat) : Int) - 1))] = _
        rw [show ((j' + 1 : Nat) : Int) - 1 = (j' : Int) by omega]
        rfl
      · rw [← hmo]
        show _ = if S (n - (j' + 1) * v) = true then j' + 1 else most (fun i => S (n - i * v)) j'
        rw [hS]
        rfl
/-! ### payment_back -/
def sp_payment_back : Sp := fun vs H Q _ => ∃ (p q : Addr) (c : Kp122.Coins) (m : Nat), vs = [.ref p, .ref q, vN m] ∧ CoinsAt H p q c ∧ m ≤ 20000 ∧
  ∀ (H' : Hp) (r : Addr), Same H H' → H r = Option.none → H' r = some (.lst ((plan c (most (Kp122.canPay c) m)).map vN)) → Q (.ref r) H'
theorem sc_payment_back : FnScope ["value", "count", "credit", "behind", "rest", "result", "kind", "coins"] ["value", "count", "credit"] (defScope s_payment_back) := ⟨rfl, rfl, rfl, by decide +kernel, rfl, by decide +kernel, by decide +kernel⟩
theorem ok_payment_back (T : Txt K mg a) : FnOk P w K mg base CX0 4 a.f_payment_back a.d_payment_back ["value", "count", "credit"] sp_payment_back := by
  refine T.F_payment_back.ok sc_payment_back (fun vs H Q E h => ?_) (fun cdv A outer s H vs Q E hr h => ?_)
  · obtain ⟨p, q, c, m, rfl, _⟩ := h
    rfl
  · obtain ⟨p, q, c, m, rfl, hC, hm, k⟩ := h
    have nd := sc_payment_back.nd
    have hr1 : Room 1 _ := hr.mono (by decide)
    have hr2 : Room 2 _ := hr.mono (by decide)
    refine ⟨_, pss_cons (ps_set (i := 3) nd rfl (Or.inl rfl) (pe_call (ok_tails T) hr rfl T.mg_tails T.F_tails.kp T.b_tails .nil pass0 (pa_cons (pv 0) (pa_cons (pv 1) (pa_cons (pv 2) pa_nil)))))
      (pss_cons (ps_set (i := 4) nd rfl (Or.inl rfl) (pe_call (ok_greatest T) hr1 rfl T.mg_greatest T.F_greatest.kp T.b_greatest .nil pass0 (pa_cons (pe_ix ix_list (pv 3) pe_int (fun _ _ => rfl)) (pa_cons (pv 2) pa_nil))))
      (pss_cons (ps_set (i := 5) nd rfl (Or.inl rfl) (pe_lst pa_nil))
      (pss_cons (ps_for PassesOwn.never rfl (pi_range1 (by rfl) T.n_range (pa_cons (pe_callB call_len_seq (by rfl) T.n_len PySem.boot_len (pa_cons (pv 0) pa_nil)) pa_nil)) (pg_name (i := 6) nd rfl (Or.inl rfl))
        (pss_cons (ps_set (i := 7) nd rfl (Or.inl rfl) (pe_call (ok_most_coins T) hr2 rfl T.mg_most_coins T.F_most_coins.kp T.b_most_coins .nil pass0
          (pa_cons (pe_ix ix_list (pv 3) (pe_op op_add (pv 6) pe_int) (fun _ _ => rfl)) (pa_cons (pe_ix ix_list (pv 0) (pv 6) (fun _ _ => rfl)) (pa_cons (pe_ix ix_list (pv 1) (pv 6) (fun _ _ => rfl)) (pa_cons (pv 4) pa_nil))))))
        (pss_cons (ps_expr (pe_bm PySem.F.plainAttrs_list PySem.F.slot_list_append PySem.F.type_list_append mt_append (pv 5) (pa_cons (pv 7) pa_nil)))
        (pss_one (ps_aug (i := 4) nd rfl (Or.inl rfl) (pe_op op_mul (pv 7) (pe_ix ix_list (pv 0) (pv 6) (fun _ _ => rfl))) ip_sub)))))
      (pss_one (ps_ret (pv 5)))))), ?_⟩
    have hs := szl
    have n8 := hC.len
    refine ⟨_, rfl, _, rfl, _, rfl, p, q, c, m, rfl, hC, hm, fun H1 r as s1 hr1 hlen hall => ?_⟩
    have ha : as[0]? = some as[0] := List.getElem?_eq_getElem (by omega)
    have h00 := hall 0 _ ha
    rw [List.drop_zero] at h00
    refine ⟨_, rfl, r, _, _, V.ref as[0], rfl, rfl, SqL.of hr1, atI_nat (j := 0) (by rw [List.getElem?_map, ha]; rfl), _, rfl, as[0], m, _, rfl, h00, hm, canPay_zero _ hC.pos, ?_⟩
    refine ⟨Nat.zero_le _, fun x hx => ?_⟩
    have hxH : H x = Option.none := s1.free hx
    have hmp : Kp122.canPay c (most (Kp122.canPay c) m) = true := most_ok _ _ 0 (Nat.zero_le _) (canPay_zero _ hC.pos)
    have hmle := most_le (Kp122.canPay c) m
    generalize most (Kp122.canPay c) m = g at *
    have s2 := same_new (o := HO.lst []) hx
    refine ⟨_, rfl, p, _, rfl, .inl (SqL.of ((s1.trans s2) _ _ hC.val)), _, rfl, (by rw [List.length_map]; omega), (by rw [List.length_map]; omega), ?_⟩
    rw [List.length_map, Int.toNat_natCast]
    refine for_range (fun i σ H' => ∃ (rest : Nat) (v6 v7 : Option V), σ = [some (.ref p), some (.ref q), some (vN m), some (.ref r), some (vN rest), some (.ref x), v6, v7] ∧ Same H1 H' ∧ H' x = some (.lst (((plan c g).take i).map vN)) ∧ rest ≤ m ∧ Kp122.canPay (c.drop i) rest = true ∧ (plan c g).drop i = plan (c.drop i) rest)
      ⟨g, _, _, rfl, s2, upd_same, hmle, by rw [List.drop_zero]; exact hmp, rfl⟩ ?_ ?_
    · rintro i σ H' hi ⟨rest, v6, v7, rfl, s3, hx3, hrest, hcp, hpl⟩
      have hg : c[i]? = some c[i] := List.getElem?_eq_getElem hi
      have hm1 : c[i] ∈ c := List.mem_of_getElem? hg
      have ha1 : as[i + 1]? = some as[i + 1] := List.getElem?_eq_getElem (by omega)
      have ed : c.drop i = (c[i].1, c[i].2) :: c.drop (i + 1) := List.drop_eq_getElem_cons hi
      have hv1 : 1 ≤ c[i].1 := hC.pos _ hm1
      rw [ed] at hcp hpl
      obtain ⟨u, u1, u2, u3, _, um, up⟩ := plan_head hv1 hcp
      have e0 : (0 : Int) + (i : Int) = (i : Int) := by omega
      refine ⟨_, rfl, _, rfl, _, _, rfl, rfl, r, _, _, V.ref as[i + 1], rfl, rfl, SqL.of (s3 _ _ hr1), at_of (j := i + 1) (by omega) (by rw [List.getElem?_map, ha1]; rfl), ?_⟩
      refine ⟨_, rfl, _, rfl, p, _, _, vN c[i].1, rfl, rfl, SqL.of ((s1.trans s3) _ _ hC.val), at_of (j := i) e0 (by rw [List.getElem?_map, hg]; rfl), ?_⟩
      refine ⟨_, rfl, _, rfl, q, _, _, vN c[i].2, rfl, rfl, SqL.of ((s1.trans s3) _ _ hC.cnt), at_of (j := i) e0 (by rw [List.getElem?_map, hg]; rfl), ?_⟩
      refine ⟨_, rfl, as[i + 1], c[i].1, c[i].2, rest, m / 1000 + 1, _, rfl, (hall (i + 1) _ ha1).same s3, by omega, hv1, hC.v _ hm1, ⟨u, (cand hv1).mpr ⟨u1, u2⟩, u3⟩, ?_⟩
      rw [um]
      refine ⟨_, rfl, .inl ⟨rfl, _, SqL.of hx3⟩, _, rfl, x, _, _, rfl, rfl, hx3, ?_, ?_⟩
      · rw [List.length_map, List.length_take, plan_len]; omega
      · have hxn : H1 x = Option.none := hx
        have s4 : Same H1 (upd H' x (.lst (((plan c g).take i).map vN ++ [vN u]))) := fun b o e => by rw [upd_ne (ne_of_none e hxn)]; exact s3 b o e
        refine ⟨_, rfl, _, rfl, _, rfl, _, rfl, p, _, _, vN c[i].1, rfl, rfl, SqL.of ((s1.trans s4) _ _ hC.val), at_of (j := i) e0 (by rw [List.getElem?_map, hg]; rfl), _, _, rfl, rfl, .inr ⟨?_, ?_⟩, _, _, rfl, rfl, ?_⟩
        · have := hC.v _ hm1
          show -(2 ^ 64) < ((c[i].1 : Nat) : Int)
          omega
        · have := hC.v _ hm1
          show ((c[i].1 : Nat) : Int) < 2 ^ 64
          omega
        · have hgp : (plan c g)[i]? = some u := by
            have := congrArg (fun l => l[0]?) hpl
            simp only [List.getElem?_drop, Nat.add_zero] at this
            rw [this, up]
            rfl
          refine ⟨rest - u * c[i].1, some (V.int (0 + (i : Int))), some (vN u), ?_, s4, ?_, by omega, u3, ?_⟩
          · show [some (V.ref p), some (V.ref q), some (vN m), some (V.ref r), some (V.int ((rest : Int) - (u : Int) * ((c[i].1 : Nat) : Int))), some (V.ref x), _, _] = _
            rw [← Int.natCast_mul, show (rest : Int) - ((u * c[i].1 : Nat) : Int) = ((rest - u * c[i].1 : Nat) : Int) by omega]
            rfl
          · rw [upd_same, take_succ hgp, List.map_append]
            rfl
          · have := congrArg List.tail hpl
            rw [up] at this
            rw [List.tail_drop] at this
            exact this
    · rintro σ H' ⟨rest, v6, v7, rfl, s3, hx3, _⟩
      refine ⟨_, rfl, k H' x (s1.trans s3) hxH ?_⟩
      rw [List.take_of_length_le (by rw [plan_len]; exact Nat.le_refl _)] at hx3
      exact hx3
end
end Hs
end
section
set_option Elab.async false
set_option linter.all false
set_option maxRecDepth 100000
set_option maxHeartbeats 4000000
namespace Hs
open PySem PySem.Spec PyProof.Rows L2
open Kp123 (Setup)
section
variable {P : Program} {w : World} {K : PySem.W.Frag} {mg : Str → Option Value} {base : Heap} {a : Ad}
def op2 (f : Int → Int → Int) : V → V → V
  | .int i, .int j => .int (f i j)
  | _, _ => .non
theorem op2_map (f : Int → Int → Int) (xs ys : List Int) : List.zipWith (op2 f) (xs.map V.int) (ys.map V.int) = (List.zipWith f xs ys).map V.int := by
  rw [List.zipWith_map, List.map_zipWith]
  rfl
/-! ### since -/
def sp_since : Sp := fun vs H Q _ => ∃ (p q : Addr) (xs ys : List Int), vs = [.ref p, .ref q] ∧ H p = some (.lst (xs.map V.int)) ∧ H q = some (.lst (ys.map V.int)) ∧ xs.length ≤ 1000 ∧
  ∀ (H' : Hp) (r : Addr), Same H H' → H r = Option.none → H' r = some (.lst ((List.zipWith (fun x y => x - y) xs ys).map V.int)) → Q (.ref r) H'
theorem sc_since : FnScope ["now", "before", "number", "first"] ["now", "before"] (defScope s_since) := ⟨rfl, rfl, rfl, by decide +kernel, rfl, by decide +kernel, by decide +kernel⟩
theorem ok_since (T : Txt K mg a) : FnOk P w K mg base CX0 1 a.f_since a.d_since ["now", "before"] sp_since := by
  refine T.F_since.ok sc_since (fun vs H Q E h => ?_) (fun cdv A outer s H vs Q E hr h => ?_)
  · obtain ⟨p, q, xs, ys, rfl, _⟩ := h
    rfl
  · obtain ⟨p, q, xs, ys, rfl, hp, hq, hl, k⟩ := h
    have nd := sc_since.nd
    refine ⟨_, pss_one (ps_ret (pe_lc (own := [("number", 2), ("first", 3)]) (g := gTup K 2 (gCons (gName 2) (gCons (gName 3) gNil))) rfl nd (pi_zip (by rfl) T.n_zip (pa_cons (pv 0) (pa_cons (pv 1) pa_nil))) (blkOk_by (by kernel_rfl))
      (fun _ _ _ _ _ => pg_tup rfl (pgs_cons (pg_name (i := 2) nd rfl (Or.inl rfl) (Or.inr rfl)) (pgs_cons (pg_name (i := 3) nd rfl (Or.inl rfl) (Or.inr rfl)) pgs_nil))) (fun _ _ _ _ _ => pts_nil) (fun _ _ _ _ _ => pe_op op_sub (pv 2) (pv 3)))), ?_⟩
    refine ⟨_, rfl, _, rfl, p, q, _, _, rfl, SqL.of hp, SqL.of hq, fun D hD => lc_zip_pure (f := op2 fun x y => x - y) (SqL.of hp) (SqL.of hq) hD (.inl (by rw [List.length_map, szl]; omega)) (fun _ _ => rfl) (fun x y hx hy H3 Q3 s3 q3 => ?_) fun H3 s3 hD3 => ?_⟩
    · obtain ⟨x', _, rfl⟩ := List.mem_map.mp hx
      obtain ⟨y', _, rfl⟩ := List.mem_map.mp hy
      exact ⟨_, rfl, _, rfl, _, _, rfl, rfl, q3⟩
    · rw [op2_map] at hD3
      exact k H3 D s3 hD hD3
/-! ### worth -/
def sp_worth : Sp := fun vs H Q _ => ∃ (p q : Addr) (xs ys : List Int), vs = [.ref p, .ref q] ∧ H p = some (.lst (xs.map V.int)) ∧ H q = some (.lst (ys.map V.int)) ∧ xs.length ≤ 1000 ∧ (∀ x ∈ xs, -(2 ^ 64) < x ∧ x < 2 ^ 64) ∧
  ∀ H' : Hp, Same H H' → Q (.int (List.zipWith (fun x y => x * y) xs ys).sum) H'
theorem sc_worth : FnScope ["price", "count", "each", "many"] ["price", "count"] (defScope s_worth) := ⟨rfl, rfl, rfl, by decide +kernel, rfl, by decide +kernel, by decide +kernel⟩
theorem ok_worth (T : Txt K mg a) : FnOk P w K mg base CX0 1 a.f_worth a.d_worth ["price", "count"] sp_worth := by
  refine T.F_worth.ok sc_worth (fun vs H Q E h => ?_) (fun cdv A outer s H vs Q E hr h => ?_)
  · obtain ⟨p, q, xs, ys, rfl, _⟩ := h
    rfl
  · obtain ⟨p, q, xs, ys, rfl, hp, hq, hl, hb, k⟩ := h
    have nd := sc_worth.nd
    refine ⟨_, pss_one (ps_ret (pe_callB (cr_sum rfl) (by rfl) T.n_sum boot_sum (pa_cons (pe_lc (own := [("each", 2), ("many", 3)]) (g := gTup K 2 (gCons (gName 2) (gCons (gName 3) gNil))) rfl nd (pi_zip (by rfl) T.n_zip (pa_cons (pv 0) (pa_cons (pv 1) pa_nil))) (blkOk_by (by kernel_rfl))
      (fun _ _ _ _ _ => pg_tup rfl (pgs_cons (pg_name (i := 2) nd rfl (Or.inl rfl) (Or.inr rfl)) (pgs_cons (pg_name (i := 3) nd rfl (Or.inl rfl) (Or.inr rfl)) pgs_nil))) (fun _ _ _ _ _ => pts_nil) (fun _ _ _ _ _ => pe_op op_mul (pv 2) (pv 3))) pa_nil))), ?_⟩
    refine ⟨_, rfl, _, rfl, p, q, _, _, rfl, SqL.of hp, SqL.of hq, fun D hD => lc_zip_pure (f := op2 fun x y => x * y) (SqL.of hp) (SqL.of hq) hD (.inl (by rw [List.length_map, szl]; omega)) (fun _ _ => rfl) (fun x y hx hy H3 Q3 s3 q3 => ?_) fun H3 s3 hD3 => ?_⟩
    · obtain ⟨x', hx', rfl⟩ := List.mem_map.mp hx
      obtain ⟨y', _, rfl⟩ := List.mem_map.mp hy
      exact ⟨_, rfl, _, rfl, _, _, rfl, rfl, .inl (hb _ hx'), q3⟩
    · rw [op2_map] at hD3
      exact ⟨D, _, rfl, SqL.of hD3, k H3 s3⟩
/-! ### bits -/
def sp_bits : Sp := fun vs H Q _ => ∃ (p : Addr) (n : Nat) (f : Nat → Bool), vs = [.ref p] ∧ H p = some (.lst (((List.range n).map f).map V.bl)) ∧ n ≤ 1000 ∧ ∀ H' : Hp, Same H H' → Q (vN (bitsN f n)) H'
theorem sc_bits : FnScope ["marks", "result", "place", "mark"] ["marks"] (defScope s_bits) := ⟨rfl, rfl, rfl, by decide +kernel, rfl, by decide +kernel, by decide +kernel⟩
theorem ok_bits (T : Txt K mg a) : FnOk P w K mg base CX0 1 a.f_bits a.d_bits ["marks"] sp_bits := by
  refine T.F_bits.ok sc_bits (fun vs H Q E h => ?_) (fun cdv A outer s H vs Q E hr h => ?_)
  · obtain ⟨p, n, f, rfl, _⟩ := h
    rfl
  · obtain ⟨p, n, f, rfl, hp, hn, k⟩ := h
    have nd := sc_bits.nd
    refine ⟨_, pss_cons (ps_set (i := 1) nd rfl (Or.inl rfl) pe_int)
      (pss_cons (ps_for PassesOwn.never rfl (pi_enum (by rfl) T.n_enumerate (pa_cons (pv 0) pa_nil)) (pg_tup rfl (pgs_cons (pg_name (i := 2) nd rfl (Or.inl rfl)) (pgs_cons (pg_name (i := 3) nd rfl (Or.inl rfl)) pgs_nil)))
        (pss_one (ps_if (pt_truth (pv 3) (fun _ => rfl)) (pss_one (ps_aug (i := 1) nd rfl (Or.inl rfl) (pe_op op_shl pe_int (pv 2)) ip_add)) pss_nil)))
      (pss_one (ps_ret (pv 1)))), ?_⟩
    refine ⟨_, rfl, p, _, rfl, SqL.of hp, for_enum (K := K) (a := p) (xs := ((List.range n).map f).map V.bl) (fun i σ H' => ∃ v2 v3 : Option V, σ = [some (.ref p), some (vN (bitsN f i)), v2, v3] ∧ Same H H' ∧ i ≤ n) ⟨_, _, rfl, Same.refl H, Nat.zero_le _⟩ (fun i σ H' _ h => by
      obtain ⟨_, _, _, s1, _⟩ := h
      exact SqL.of (s1 _ _ hp)) ?_ ?_⟩
    · rintro i x σ H' Tu hx ⟨v2, v3, rfl, s1, hi⟩ hT
      have hin : i < n := by
        have := (List.getElem?_eq_some_iff.mp hx).1
        rw [List.length_map, List.length_map, List.length_range] at this
        exact this
      rw [List.getElem?_map, get_rmap f hin] at hx
      cases hx
      have sT := s1.trans (same_new (o := HO.tup [V.int (i : Nat), V.bl (f i)]) hT)
      refine ⟨Tu, _, rfl, SqT.of upd_same, rfl, _, _, rfl, _, _, rfl, rfl, ?_⟩
      refine ⟨_, rfl, _, rfl, ?_⟩
      refine ite2 (fun hc => ?_) (fun hc => ?_)
      · refine ⟨_, rfl, _, rfl, _, _, rfl, rfl, ⟨by omega, by omega, by decide⟩, _, _, rfl, rfl, some (V.int (i : Int)), some (V.bl (f i)), ?_, sT, hin⟩
        rw [bitsN_succ, if_pos hc]
        have e : ((bitsN f i : Nat) : Int) + 1 * 2 ^ ((i : Nat) : Int).toNat = ((bitsN f i + 2 ^ i : Nat) : Int) := by
          rw [Int.one_mul, Int.toNat_natCast, two_pow_cast]
          omega
        show [some (V.ref p), some (V.int (((bitsN f i : Nat) : Int) + 1 * 2 ^ ((i : Nat) : Int).toNat)), _, _] = _
        rw [e]
        rfl
      · refine ⟨some (V.int (i : Int)), some (V.bl (f i)), ?_, sT, hin⟩
        rw [bitsN_succ, if_neg hc]
        rfl
    · rintro σ H' ⟨v2, v3, rfl, s1, hi⟩
      refine ⟨_, rfl, ?_⟩
      rw [List.length_map, List.length_map, List.length_range]
      exact k H' s1
/-! ### all_within -/
def inV (lo hi : Int) : V → V
  | .int z => .bl (decide (lo ≤ z) && decide (z ≤ hi))
  | _ => .non
def within (lo hi : Int) (xs : List Int) : Bool := xs.all fun z => decide (lo ≤ z) && decide (z ≤ hi)
def sp_all_within : Sp := fun vs H Q _ => ∃ (p : Addr) (lo hi : Int) (xs : List Int), vs = [.ref p, .int lo, .int hi] ∧ H p = some (.lst (xs.map V.int)) ∧ xs.length ≤ 1000 ∧ ∀ H' : Hp, Same H H' → Q (.bl (within lo hi xs)) H'
theorem sc_all_within : FnScope ["numbers", "least", "most", "number"] ["numbers", "least", "most"] (defScope s_all_within) := ⟨rfl, rfl, rfl, by decide +kernel, rfl, by decide +kernel, by decide +kernel⟩
theorem ok_all_within (T : Txt K mg a) : FnOk P w K mg base CX0 1 a.f_all_within a.d_all_within ["numbers", "least", "most"] sp_all_within := by
  refine T.F_all_within.ok sc_all_within (fun vs H Q E h => ?_) (fun cdv A outer s H vs Q E hr h => ?_)
  · obtain ⟨p, lo, hi, xs, rfl, _⟩ := h
    rfl
  · obtain ⟨p, lo, hi, xs, rfl, hp, hl, k⟩ := h
    have nd := sc_all_within.nd
    refine ⟨_, pss_one (ps_ret (pe_callB (cr_all rfl) (by rfl) T.n_all boot_all (pa_cons (pe_lc (own := [("number", 3)]) rfl nd (pi_list (pv 0)) (blkOk_by (by kernel_rfl))
      (fun _ _ _ _ _ => pg_name (i := 3) nd rfl (Or.inl rfl) (Or.inr rfl)) (fun _ _ _ _ _ => pts_nil) (fun _ _ _ _ _ => pe_chain op_le op_le (pv 1) (pv 3) (pv 2))) pa_nil))), ?_⟩
    refine ⟨_, rfl, p, rfl, ⟨_, SqL.of hp⟩, fun D hD => lc_list_pure (f := inV lo hi) (SqL.of hp) hD (by rw [List.length_map, szl]; omega) (fun _ => rfl) (fun x hx H3 Q3 s3 q3 => ?_) fun H3 s3 hD3 => ?_⟩
    · obtain ⟨z, _, rfl⟩ := List.mem_map.mp hx
      refine ⟨_, rfl, _, rfl, _, _, rfl, rfl, _, rfl, ?_⟩
      have q3 : Q3 (.bl (decide (lo ≤ z) && decide (z ≤ hi))) H3 := q3
      refine ite2 (fun hc => ?_) (fun hc => ?_)
      · rw [hc, Bool.true_and] at q3
        exact ⟨_, rfl, _, _, rfl, rfl, q3⟩
      · have hc' : decide (lo ≤ z) = false := by
          cases h : decide (lo ≤ z) with
          | false => rfl
          | true => exact absurd h hc
        rw [hc', Bool.false_and] at q3
        exact q3
    · refine ⟨D, xs.map fun z => decide (lo ≤ z) && decide (z ≤ hi), rfl, SqL.of ?_, ?_⟩
      · rw [hD3, List.map_map, List.map_map]
        rfl
      · have e : (xs.map fun z => decide (lo ≤ z) && decide (z ≤ hi)).all id = within lo hi xs := by
          unfold within
          rw [List.all_map]
          rfl
        rw [e]
        exact k H3 s3
/-! ### a setup; is_as_told -/
structure SuA where
  dx : Addr
  v : Addr
  t : Addr
  p : Addr
  q : Addr
  i : Addr
  o : Addr
  f : Addr
def suFS (S : Setup) (A : SuA) : List (Str × V) := suF (vN S.kinds) (vN S.slots) (vN S.most) (vN S.none_) (.ref A.v) (.ref A.t) (.ref A.p) (.ref A.q) (.ref A.i) (.ref A.o) (.ref A.f)
structure SetupAt (C : Addr) (H : Hp) (x : Addr) (S : Setup) (A : SuA) : Prop where
  ob : H x = some (.ins C A.dx (suFS S A))
  v : H A.v = some (.lst ((cI S.value).map V.int))
  t : H A.t = some (.lst ((cI S.tube).map V.int))
  p : H A.p = some (.lst ((cI S.price).map V.int))
  q : H A.q = some (.lst ((cI S.stock).map V.int))
  i : H A.i = some (.lst ((cI S.in0).map V.int))
  o : H A.o = some (.lst ((cI S.out0).map V.int))
  f : H A.f = some (.lst ((cI S.fell0).map V.int))
theorem SetupAt.same {C : Addr} {H H' : Hp} {x : Addr} {S : Setup} {A : SuA} (h : SetupAt C H x S A) (s : Same H H') : SetupAt C H' x S A :=
  ⟨s _ _ h.ob, s _ _ h.v, s _ _ h.t, s _ _ h.p, s _ _ h.q, s _ _ h.i, s _ _ h.o, s _ _ h.f⟩
theorem cut_cI (l : List Nat) (n : Nat) : cutV ((cI l).map V.int) Option.none (some (n : Int)) = (cI (l.take n)).map V.int := by
  unfold cutV cI
  rw [HT.sIx_none, HT.sIx_nat, List.drop_zero, Nat.sub_zero, List.map_take, List.map_take, List.length_map, List.length_map]
  by_cases h : n ≤ l.length
  · rw [Nat.min_eq_left h]
  · rw [Nat.min_eq_right (by omega), List.take_of_length_le (by rw [List.length_map, List.length_map]; exact Nat.le_refl _), List.take_of_length_le (by rw [List.length_map, List.length_map]; omega)]
theorem within_nat (lo hi : Nat) (l : List Nat) : within (lo : Int) (hi : Int) (cI l) = l.all fun v => decide (lo ≤ v) && decide (v ≤ hi) := by
  unfold within cI
  rw [List.all_map]
  congr 1
  funext v
  show (decide ((lo : Int) ≤ (v : Int)) && decide ((v : Int) ≤ (hi : Int))) = _
  rw [show decide ((lo : Int) ≤ (v : Int)) = decide (lo ≤ v) from decide_eq_decide.mpr (by omega), show decide ((v : Int) ≤ (hi : Int)) = decide (v ≤ hi) from decide_eq_decide.mpr (by omega)]
theorem good_eq (S : Setup) : Kp123.goodSetup S = (within 1 8 (cI [S.kinds, S.slots]) && ((decide ((1 : Int) ≤ (S.most : Int)) && decide ((S.most : Int) ≤ 10000)) && decide ((S.none_ : Int) = 0)) &&
    (within 1 10000 (cI (S.value.take S.kinds)) && within 0 200 (cI (S.tube.take S.kinds))) && (within 1 10000 (cI (S.price.take S.slots)) && within 0 200 (cI (S.stock.take S.slots)))) := by
  have e1 := within_nat 1 8 [S.kinds, S.slots]
  have e2 := within_nat 1 10000 (S.value.take S.kinds)
  have e3 := within_nat 0 200 (S.tube.take S.kinds)
  have e4 := within_nat 1 10000 (S.price.take S.slots)
  have e5 := within_nat 0 200 (S.stock.take S.slots)
  rw [show ((1 : Nat) : Int) = 1 from rfl, show ((8 : Nat) : Int) = 8 from rfl] at e1
  rw [show ((1 : Nat) : Int) = 1 from rfl, show ((10000 : Nat) : Int) = 10000 from rfl] at e2 e4
  rw [show ((0 : Nat) : Int) = 0 from rfl, show ((200 : Nat) : Int) = 200 from rfl] at e3 e5
  rw [e1, e2, e3, e4, e5]
  unfold Kp123.goodSetup
  rw [show decide ((1 : Int) ≤ (S.most : Int)) = decide (1 ≤ S.most) from decide_eq_decide.mpr (by omega), show decide ((S.most : Int) ≤ 10000) = decide (S.most ≤ 10000) from decide_eq_decide.mpr (by omega), show decide ((S.none_ : Int) = 0) = decide (S.none_ = 0) from decide_eq_decide.mpr (by omega)]
  simp only [List.all_cons, List.all_nil, Nat.zero_le, decide_true, Bool.true_and, Bool.and_true, Bool.and_assoc]
def sp_is_as_told (C : Addr) : Sp := fun vs H Q _ => ∃ (x : Addr) (S : Setup) (A : SuA), vs = [.ref x] ∧ SetupAt C H x S A ∧ Lens S ∧ ∀ H' : Hp, Same H H' → Q (.bl (Kp123.goodSetup S)) H'
theorem sc_is_as_told : FnScope ["setup"] ["setup"] (defScope s_is_as_told) := ⟨rfl, rfl, rfl, by decide +kernel, rfl, by decide +kernel, by decide +kernel⟩
theorem ok_is_as_told (T : Txt K mg a) : FnOk P w K mg base CX0 2 a.f_is_as_told a.d_is_as_told ["setup"] (sp_is_as_told a.cSetup) := by
  refine T.F_is_as_told.ok sc_is_as_told (fun vs H Q E h => ?_) (fun cdv A outer s H vs Q E hr h => ?_)
  · obtain ⟨x, S, A, rfl, _⟩ := h
    rfl
  · obtain ⟨x, S, B, rfl, hS, hL, k⟩ := h
    refine ⟨_, pss_cons (ps_if (pt_not (pt_truth (pe_call (ok_all_within T) hr rfl T.mg_all_within T.F_all_within.kp T.b_all_within .nil pass0 (pa_cons (pe_lst (pa_cons (pe_fld (pv 0) rfl) (pa_cons (pe_fld (pv 0) rfl) pa_nil))) (pa_cons pe_int (pa_cons pe_int pa_nil)))) (fun _ => rfl))) (pss_one (ps_ret pe_bl)) pss_nil)
      (pss_cons (ps_if (PW.pt (pw_or (pt_not (pt_chain op_le op_le pe_int (pe_fld (pv 0) rfl) pe_int)) (pw_or1 (pt_cmpR op_ne (pe_fld (pv 0) rfl) pe_int (nomark _))))) (pss_one (ps_ret pe_bl)) pss_nil)
      (pss_cons (ps_if (PW.pt (pw_or (pt_not (pt_truth (pe_call (ok_all_within T) hr rfl T.mg_all_within T.F_all_within.kp T.b_all_within .nil pass0 (pa_cons (pe_slice sl_list (pe_fld (pv 0) rfl) po_none (po_some (pe_fld (pv 0) rfl))) (pa_cons pe_int (pa_cons pe_int pa_nil)))) (fun _ => rfl)))
        (pw_or1 (pt_not (pt_truth (pe_call (ok_all_within T) hr rfl T.mg_all_within T.F_all_within.kp T.b_all_within .nil pass0 (pa_cons (pe_slice sl_list (pe_fld (pv 0) rfl) po_none (po_some (pe_fld (pv 0) rfl))) (pa_cons pe_int (pa_cons pe_int pa_nil)))) (fun _ => rfl)))))) (pss_one (ps_ret pe_bl)) pss_nil)
      (pss_one (ps_ret (pe_and (pe_call (ok_all_within T) hr rfl T.mg_all_within T.F_all_within.kp T.b_all_within .nil pass0 (pa_cons (pe_slice sl_list (pe_fld (pv 0) rfl) po_none (po_some (pe_fld (pv 0) rfl))) (pa_cons pe_int (pa_cons pe_int pa_nil))))
        (pe_one (pe_call (ok_all_within T) hr rfl T.mg_all_within T.F_all_within.kp T.b_all_within .nil pass0 (pa_cons (pe_slice sl_list (pe_fld (pv 0) rfl) po_none (po_some (pe_fld (pv 0) rfl))) (pa_cons pe_int (pa_cons pe_int pa_nil)))))))))), ?_⟩
    have kk : ∀ (H' : Hp) (b : Bool), Same H H' → b = Kp123.goodSetup S → Q (.bl b) H' := fun H' b s e => by
      rw [e]
      exact k H' s
    rw [good_eq] at kk
    have hs := szl
    have short : ∀ (l : List Nat) (n : Nat), l.length = 8 → (cI (l.take n)).length ≤ 1000 := fun l n h => by
      unfold cI
      rw [List.length_map, List.length_take]; omega
    -- kinds, slots
    refine ⟨_, rfl, x, _, _, _, _, rfl, hS.ob, T.cl_Setup, T.no_Setup_kinds, suF_kinds, _, rfl, x, _, _, _, _, rfl, hS.ob, T.cl_Setup, T.no_Setup_slots, suF_slots, (by show 2 ≤ sizeLine; omega), fun y hy => ?_⟩
    refine ⟨y, 1, 8, cI [S.kinds, S.slots], rfl, upd_same, (by show 2 ≤ 1000; decide), fun H1 s1 => ⟨_, rfl, ?_⟩⟩
    have s1 := (same_new hy).trans s1
    have hS := hS.same s1
    cases h1 : within 1 8 (cI [S.kinds, S.slots]) with
    | false => exact iteT (kk H1 _ s1 (by rw [h1]; rfl))
    | true =>
      refine iteF ?_
      -- most, none
      refine ⟨_, rfl, x, _, _, _, _, rfl, hS.ob, T.cl_Setup, T.no_Setup_most, suF_most, _, _, rfl, rfl, _, rfl, ?_⟩
      cases c1 : decide ((1 : Int) ≤ (S.most : Int)) with
      | false => exact iteF ⟨_, rfl, iteT (iteT (kk H1 _ s1 (by rw [h1, c1]; rfl)))⟩
      | true =>
        refine iteT ⟨_, _, rfl, rfl, _, rfl, ?_⟩
        cases c2 : decide ((S.most : Int) ≤ 10000) with
        | false => exact iteT (iteT (kk H1 _ s1 (by rw [h1, c1, c2]; rfl)))
        | true =>
          refine iteF ⟨_, rfl, x, _, _, _, _, rfl, hS.ob, T.cl_Setup, T.no_Setup_none, suF_none, rfl, _, rfl, ?_⟩
          have ed : decide (vN S.none_ = V.int 0) = decide ((S.none_ : Int) = 0) := decide_eq_decide.mpr ⟨fun h => by injection h, fun h => by unfold vN; rw [h]⟩
          rw [ed]
          cases c3 : decide ((S.none_ : Int) = 0) with
          | false => exact iteT (kk H1 _ s1 (by rw [h1, c1, c2, c3]; rfl))
          | true =>
            refine iteF ?_
            -- value, tube
            refine ⟨_, rfl, x, _, _, _, _, rfl, hS.ob, T.cl_Setup, T.no_Setup_value, suF_value, _, rfl, x, _, _, _, _, rfl, hS.ob, T.cl_Setup, T.no_Setup_kinds, suF_kinds, _, rfl, B.v, _, rfl, SqL.of hS.v, fun y2 hy2 => ?_⟩
            refine ⟨y2, 1, 10000, cI (S.value.take S.kinds), rfl, (by rw [upd_same, cut_cI]), short _ _ hL.value, fun H2 s2 => ⟨_, rfl, ?_⟩⟩
            have s2 := s1.trans ((same_new hy2).trans s2)
            have hS := (‹SetupAt a.cSetup H x S B›).same s2
            cases h2 : within 1 10000 (cI (S.value.take S.kinds)) with
            | false => exact iteT (iteT (kk H2 _ s2 (by rw [h1, c1, c2, c3, h2]; rfl)))
            | true =>
              refine iteF ⟨_, rfl, x, _, _, _, _, rfl, hS.ob, T.cl_Setup, T.no_Setup_tube, suF_tube, _, rfl, x, _, _, _, _, rfl, hS.ob, T.cl_Setup, T.no_Setup_kinds, suF_kinds, _, rfl, B.t, _, rfl, SqL.of hS.t, fun y3 hy3 => ?_⟩
              refine ⟨y3, 0, 200, cI (S.tube.take S.kinds), rfl, (by rw [upd_same, cut_cI]), short _ _ hL.tube, fun H3 s3 => ⟨_, rfl, ?_⟩⟩
              have s3 := s2.trans ((same_new hy3).trans s3)
              have hS := (‹SetupAt a.cSetup H x S B›).same s3
              cases h3 : within 0 200 (cI (S.tube.take S.kinds)) with
              | false => exact iteT (kk H3 _ s3 (by rw [h1, c1, c2, c3, h2, h3]; rfl))
              | true =>
                refine iteF ?_
                -- price, stock
                refine ⟨_, rfl, x, _, _, _, _, rfl, hS.ob, T.cl_Setup, T.no_Setup_price, suF_price, _, rfl, x, _, _, _, _, rfl, hS.ob, T.cl_Setup, T.no_Setup_slots, suF_slots, _, rfl, B.p, _, rfl, SqL.of hS.p, fun y4 hy4 => ?_⟩
                refine ⟨y4, 1, 10000, cI (S.price.take S.slots), rfl, (by rw [upd_same, cut_cI]), short _ _ hL.price, fun H4 s4 => ⟨_, rfl, ?_⟩⟩
                have s4 := s3.trans ((same_new hy4).trans s4)
                have hS := (‹SetupAt a.cSetup H x S B›).same s4
                cases h4 : within 1 10000 (cI (S.price.take S.slots)) with
                | false => exact iteF (kk H4 _ s4 (by rw [h1, c1, c2, c3, h2, h3, h4]; rfl))
                | true =>
                  refine iteT ⟨_, rfl, x, _, _, _, _, rfl, hS.ob, T.cl_Setup, T.no_Setup_stock, suF_stock, _, rfl, x, _, _, _, _, rfl, hS.ob, T.cl_Setup, T.no_Setup_slots, suF_slots, _, rfl, B.q, _, rfl, SqL.of hS.q, fun y5 hy5 => ?_⟩
                  refine ⟨y5, 0, 200, cI (S.stock.take S.slots), rfl, (by rw [upd_same, cut_cI]), short _ _ hL.stock, fun H5 s5 => ?_⟩
                  exact kk H5 _ (s4.trans ((same_new hy5).trans s5)) (by rw [h1, c1, c2, c3, h2, h3, h4]; simp)
end
end Hs
end
section
set_option Elab.async false
set_option linter.all false
set_option maxRecDepth 100000
set_option maxHeartbeats 4000000
namespace Hs
open PySem PySem.Spec PyProof.Rows L2
open Kp123 (Setup)
section
variable {P : Program} {w : World} {K : PySem.W.Frag} {mg : Str → Option Value} {base : Heap} {a : Ad}
/-! ### Around -/
def arO (C dr told q : Addr) (heard times : Nat) : HO := .ins C dr (arF (.ref told) (vN heard) (vN times) (.ref q))
def arC (C r dr told q : Addr) (heard times : Nat) (xs : List Int) : Cells := [(r, arO C dr told q heard times), (q, .lst (xs.map V.int))]
def sp_Around_init (C : Addr) : Sp := fun vs H Q _ => ∃ (G : Hp) (x dx t : Addr), vs = [.ref x, .ref t] ∧ Sep G H [(x, .ins C dx [])] ∧ ∀ (H' : Hp) (q : Addr), Sep G H' (arC C x dx t q 0 0 []) → Q .non H'
theorem sc_Around_init : FnScope ["self", "told"] ["self", "told"] (defScope s_Around_init) := ⟨rfl, rfl, rfl, by decide +kernel, rfl, by decide +kernel, by decide +kernel⟩
theorem ok_Around_init (T : Txt K mg a) : FnOk P w K mg base CX0 1 a.f_Around_init a.d_Around_init ["self", "told"] (sp_Around_init a.cAround) := by
  refine T.F_Around_init.ok sc_Around_init (fun vs H Q E h => ?_) (fun cdv A outer s H vs Q E hr h => ?_)
  · obtain ⟨G, x, dx, t, rfl, _⟩ := h
    rfl
  · obtain ⟨G, x, dx, t, rfl, h0, k⟩ := h
    refine ⟨_, pss_cons (ps_fld (pv 0) (pv 1) rfl) (pss_cons (ps_fld (pv 0) pe_int rfl) (pss_cons (ps_fld (pv 0) pe_int rfl) (pss_one (ps_fld (pv 0) (pe_lst pa_nil) rfl)))), ?_⟩
    refine ⟨_, rfl, _, rfl, x, _, dx, _, rfl, h0.at 0, T.cl_Around, T.no_Around_told, (by show 0 < 1000; decide), ?_⟩
    have h1 := h0.set 0 (.ins a.cAround dx [("told", V.ref t)])
    refine ⟨_, rfl, x, _, dx, _, rfl, h1.at 0, T.cl_Around, T.no_Around_heard, (by show 1 < 1000; decide), ?_⟩
    rw [arI1]
    have h2 := h1.set 0 (.ins a.cAround dx [("told", V.ref t), ("heard", V.int 0)])
    refine ⟨_, rfl, x, _, dx, _, rfl, h2.at 0, T.cl_Around, T.no_Around_times, (by show 2 < 1000; decide), ?_⟩
    rw [arI2]
    have h3 := h2.set 0 (.ins a.cAround dx [("told", V.ref t), ("heard", V.int 0), ("times", V.int 0)])
    refine ⟨Nat.zero_le _, fun q hq => ?_⟩
    have h4 := h3.new (o := .lst []) hq
    refine ⟨_, rfl, x, _, dx, _, rfl, h4.at 1, T.cl_Around, T.no_Around_asked, (by show 3 < 1000; decide), ?_⟩
    rw [arI3]
    have h5 := h4.set 1 (.ins a.cAround dx [("told", V.ref t), ("heard", V.int 0), ("times", V.int 0), ("asked", V.ref q)])
    exact k _ q (h5.perm (.swap _ _ _))
def sp_note (C : Addr) : Sp := fun vs H Q _ => ∃ (G : Hp) (r dr told q : Addr) (heard times : Nat) (xs : List Int) (b : Addr) (zs : List Int), vs = [.ref r, .ref b] ∧ Sep G H (arC C r dr told q heard times xs) ∧ H b = some (.lst (zs.map V.int)) ∧ xs.length + zs.length ≤ 1000000 ∧
  ∀ H' : Hp, Sep G H' (arC C r dr told q heard (times + 1) (xs ++ zs)) → Q .non H'
theorem sc_note : FnScope ["self", "numbers"] ["self", "numbers"] (defScope s_Around_note) := ⟨rfl, rfl, rfl, by decide +kernel, rfl, by decide +kernel, by decide +kernel⟩
theorem ok_note (T : Txt K mg a) : FnOk P w K mg base CX0 1 a.f_Around_note a.d_Around_note ["self", "numbers"] (sp_note a.cAround) := by
  refine T.F_Around_note.ok sc_note (fun vs H Q E h => ?_) (fun cdv A outer s H vs Q E hr h => ?_)
  · obtain ⟨G, r, dr, told, q, heard, times, xs, b, zs, rfl, _⟩ := h
    rfl
  · obtain ⟨G, r, dr, told, q, heard, times, xs, b, zs, rfl, h0, hb, hz, k⟩ := h
    refine ⟨_, pss_cons (ps_fldaug (pv 0) pe_int in_add) (pss_one (ps_expr (pe_bm PySem.F.plainAttrs_list PySem.F.slot_list_extend PySem.F.type_list_extend mt_extend (pe_fld (pv 0) rfl) (pa_cons (pv 1) pa_nil)))), ?_⟩
    refine ⟨_, rfl, r, _, dr, _, _, rfl, h0.at 0, T.cl_Around, T.no_Around_times, arF_times, _, _, rfl, rfl, dr, _, h0.at 0, arL, ?_⟩
    rw [arP_times]
    have h1 := h0.set 0 (arO a.cAround dr told q heard (times + 1))
    have hbr : b ≠ r := ne_of hb (h0.at 0) (by intro z; cases z)
    refine ⟨_, rfl, r, _, dr, _, V.ref q, rfl, h1.at 0, T.cl_Around, T.no_Around_asked, arF_asked, .inl ⟨rfl, _, SqL.of (h1.at 1)⟩, _, rfl, q, b, _, zs.map V.int, rfl, rfl, h1.at 1, ?_, ?_, ?_⟩
    · show (upd H r _) b = _
      rw [upd_ne hbr]; exact hb
    · rw [List.length_map, List.length_map, szl]; omega
    · have h2 := h1.set 1 (.lst ((xs ++ zs).map V.int))
      rw [← List.map_append]
      exact k _ h2
/-- what stands behind an around in a def's frame -/
def sp_ask (C : Addr) : Sp := fun vs H Q _ => ∃ (G : Hp) (r dr told q : Addr) (heard times : Nat) (xs Tl : List Int) (f k z : Int), vs = [.ref r, .int f, .int k] ∧ Sep G H (arC C r dr told q heard times xs) ∧ G told = some (.lst (Tl.map V.int)) ∧ Tl[heard]? = some z ∧ xs.length + 2 ≤ 1000000 ∧
  ∀ H' : Hp, Sep G H' (arC C r dr told q (heard + 1) (times + 1) (xs ++ [f, k])) → Q (.int z) H'
theorem sc_ask : FnScope ["self", "function", "which"] ["self", "function", "which"] (defScope s_Around_ask) := ⟨rfl, rfl, rfl, by decide +kernel, rfl, by decide +kernel, by decide +kernel⟩
theorem ok_ask (T : Txt K mg a) : FnOk P w K mg base CX0 2 a.f_Around_ask a.d_Around_ask ["self", "function", "which"] (sp_ask a.cAround) := by
  refine T.F_Around_ask.ok sc_ask (fun vs H Q E h => ?_) (fun cdv A outer s H vs Q E hr h => ?_)
  · obtain ⟨G, r, dr, told, q, heard, times, xs, Tl, f, k, z, rfl, _⟩ := h
    rfl
  · obtain ⟨G, r, dr, told, q, heard, times, xs, Tl, f, c, z, rfl, h0, hT, hz, hl, k⟩ := h
    refine ⟨_, pss_cons (ps_expr (pe_meth (pv 0) T.cl_Around T.me_Around_note (ok_note T) hr T.b_Around_note .nil pass0 (pa_cons (pe_lst (pa_cons (pv 1) (pa_cons (pv 2) pa_nil))) pa_nil)))
      (pss_cons (ps_fldaug (pv 0) pe_int in_add) (pss_one (ps_ret (pe_ix ix_list (pe_fld (pv 0) rfl) (pe_op op_sub (pe_fld (pv 0) rfl) pe_int) (fun _ _ => rfl))))), ?_⟩
    have hs := szl
    refine ⟨_, rfl, r, dr, _, rfl, h0.at 0, arM_note, _, rfl, _, rfl, (by show 2 ≤ sizeLine; omega), fun b hb => ?_⟩
    refine ⟨G, r, dr, told, q, heard, times, xs, b, [f, c], rfl, h0.ext (same_new hb), upd_same, hl, fun H1 h1 => ?_⟩
    refine ⟨_, rfl, r, _, dr, _, _, rfl, h1.at 0, T.cl_Around, T.no_Around_heard, arF_heard, _, _, rfl, rfl, dr, _, h1.at 0, arL, ?_⟩
    rw [arP_heard]
    have h2 := h1.set 0 (arO a.cAround dr told q (heard + 1) (times + 1))
    refine ⟨_, rfl, r, _, dr, _, _, rfl, h2.at 0, T.cl_Around, T.no_Around_told, arF_told, _, rfl, r, _, dr, _, _, rfl, h2.at 0, T.cl_Around, T.no_Around_heard, arF_heard, _, _, rfl, rfl, told, _, _, V.int z, rfl, rfl, SqL.of (h2.same _ _ hT), at_of (j := heard) (by omega) (by rw [List.getElem?_map, hz]; rfl), ?_⟩
    exact k _ h2
def sp_ask1 (C : Addr) (f : Int) : Sp := fun vs H Q _ => ∃ (G : Hp) (r dr told q : Addr) (heard times : Nat) (xs Tl : List Int) (k z : Int), vs = [.ref r, .int k] ∧ Sep G H (arC C r dr told q heard times xs) ∧ G told = some (.lst (Tl.map V.int)) ∧ Tl[heard]? = some z ∧ xs.length + 2 ≤ 1000000 ∧
  ∀ H' : Hp, Sep G H' (arC C r dr told q (heard + 1) (times + 1) (xs ++ [f, k])) → Q (.bl (z == 1)) H'
theorem dec_beq (z y : Int) : decide (V.int z = V.int y) = (z == y) := by
  by_cases h : z = y
  · subst h; simp
  · have : ¬ V.int z = V.int y := fun e => by injection e with e; exact h e
    rw [decide_eq_false this]
    exact (beq_eq_false_iff_ne.mpr h).symm
theorem sc_pay : FnScope ["self", "kind"] ["self", "kind"] (defScope s_Around_pay) := ⟨rfl, rfl, rfl, by decide +kernel, rfl, by decide +kernel, by decide +kernel⟩
theorem ok_pay (T : Txt K mg a) : FnOk P w K mg base CX0 3 a.f_Around_pay a.d_Around_pay ["self", "kind"] (sp_ask1 a.cAround 5) := by
  refine T.F_Around_pay.ok sc_pay (fun vs H Q E h => ?_) (fun cdv A outer s H vs Q E hr h => ?_)
  · obtain ⟨G, r, dr, told, q, heard, times, xs, Tl, k, z, rfl, _⟩ := h
    rfl
  · obtain ⟨G, r, dr, told, q, heard, times, xs, Tl, c, z, rfl, h0, hT, hz, hl, k⟩ := h
    refine ⟨_, pss_one (ps_ret (pe_cmpR op_eq (pe_meth (pv 0) T.cl_Around T.me_Around_ask (ok_ask T) hr T.b_Around_ask .nil pass0 (pa_cons (pe_gI T.g_PAY) (pa_cons (pv 1) pa_nil))) pe_int (nomark _))), ?_⟩
    refine ⟨_, rfl, r, dr, _, rfl, h0.at 0, arM_ask, _, rfl, G, r, dr, told, q, heard, times, xs, Tl, 5, c, z, rfl, h0, hT, hz, hl, fun H' h' => ⟨rfl, ?_⟩⟩
    rw [dec_beq]
    exact k H' h'
theorem sc_drop : FnScope ["self", "slot"] ["self", "slot"] (defScope s_Around_drop) := ⟨rfl, rfl, rfl, by decide +kernel, rfl, by decide +kernel, by decide +kernel⟩
theorem ok_drop (T : Txt K mg a) : FnOk P w K mg base CX0 3 a.f_Around_drop a.d_Around_drop ["self", "slot"] (sp_ask1 a.cAround 6) := by
  refine T.F_Around_drop.ok sc_drop (fun vs H Q E h => ?_) (fun cdv A outer s H vs Q E hr h => ?_)
  · obtain ⟨G, r, dr, told, q, heard, times, xs, Tl, k, z, rfl, _⟩ := h
    rfl
  · obtain ⟨G, r, dr, told, q, heard, times, xs, Tl, c, z, rfl, h0, hT, hz, hl, k⟩ := h
    refine ⟨_, pss_one (ps_ret (pe_cmpR op_eq (pe_meth (pv 0) T.cl_Around T.me_Around_ask (ok_ask T) hr T.b_Around_ask .nil pass0 (pa_cons (pe_gI T.g_DROP) (pa_cons (pv 1) pa_nil))) pe_int (nomark _))), ?_⟩
    refine ⟨_, rfl, r, dr, _, rfl, h0.at 0, arM_ask, _, rfl, G, r, dr, told, q, heard, times, xs, Tl, 6, c, z, rfl, h0, hT, hz, hl, fun H' h' => ⟨rfl, ?_⟩⟩
    rw [dec_beq]
    exact k H' h'
def sp_take (C : Addr) : Sp := fun vs H Q _ => ∃ (G : Hp) (r dr told q : Addr) (heard times : Nat) (xs : List Int) (k : Int), vs = [.ref r, .int k] ∧ Sep G H (arC C r dr told q heard times xs) ∧ xs.length + 2 ≤ 1000000 ∧
  ∀ H' : Hp, Sep G H' (arC C r dr told q heard (times + 1) (xs ++ [1, k])) → Q .non H'
theorem sc_take : FnScope ["self", "kinds"] ["self", "kinds"] (defScope s_Around_take) := ⟨rfl, rfl, rfl, by decide +kernel, rfl, by decide +kernel, by decide +kernel⟩
theorem ok_take (T : Txt K mg a) : FnOk P w K mg base CX0 2 a.f_Around_take a.d_Around_take ["self", "kinds"] (sp_take a.cAround) := by
  refine T.F_Around_take.ok sc_take (fun vs H Q E h => ?_) (fun cdv A outer s H vs Q E hr h => ?_)
  · obtain ⟨G, r, dr, told, q, heard, times, xs, k, rfl, _⟩ := h
    rfl
  · obtain ⟨G, r, dr, told, q, heard, times, xs, c, rfl, h0, hl, k⟩ := h
    refine ⟨_, pss_one (ps_expr (pe_meth (pv 0) T.cl_Around T.me_Around_note (ok_note T) hr T.b_Around_note .nil pass0 (pa_cons (pe_lst (pa_cons (pe_gI T.g_TAKE) (pa_cons (pv 1) pa_nil))) pa_nil))), ?_⟩
    have hs := szl
    refine ⟨_, rfl, r, dr, _, rfl, h0.at 0, arM_note, _, rfl, (by show 2 ≤ sizeLine; omega), fun b hb => ?_⟩
    exact ⟨G, r, dr, told, q, heard, times, xs, b, [1, c], rfl, h0.ext (same_new hb), upd_same, hl, fun H1 h1 => k H1 h1⟩
def sp_show (C : Addr) : Sp := fun vs H Q _ => ∃ (G : Hp) (r dr told q : Addr) (heard times : Nat) (xs : List Int) (k l : Int), vs = [.ref r, .int k, .int l] ∧ Sep G H (arC C r dr told q heard times xs) ∧ xs.length + 3 ≤ 1000000 ∧
  ∀ H' : Hp, Sep G H' (arC C r dr told q heard (times + 1) (xs ++ [7, k, l])) → Q .non H'
theorem sc_show : FnScope ["self", "amount", "slots"] ["self", "amount", "slots"] (defScope s_Around_show) := ⟨rfl, rfl, rfl, by decide +kernel, rfl, by decide +kernel, by decide +kernel⟩
theorem ok_show (T : Txt K mg a) : FnOk P w K mg base CX0 2 a.f_Around_show a.d_Around_show ["self", "amount", "slots"] (sp_show a.cAround) := by
  refine T.F_Around_show.ok sc_show (fun vs H Q E h => ?_) (fun cdv A outer s H vs Q E hr h => ?_)
  · obtain ⟨G, r, dr, told, q, heard, times, xs, k, l, rfl, _⟩ := h
    rfl
  · obtain ⟨G, r, dr, told, q, heard, times, xs, c, l, rfl, h0, hl, k⟩ := h
    refine ⟨_, pss_one (ps_expr (pe_meth (pv 0) T.cl_Around T.me_Around_note (ok_note T) hr T.b_Around_note .nil pass0 (pa_cons (pe_lst (pa_cons (pe_gI T.g_SHOW) (pa_cons (pv 1) (pa_cons (pv 2) pa_nil)))) pa_nil))), ?_⟩
    have hs := szl
    refine ⟨_, rfl, r, dr, _, rfl, h0.at 0, arM_note, _, rfl, _, rfl, (by show 3 ≤ sizeLine; omega), fun b hb => ?_⟩
    exact ⟨G, r, dr, told, q, heard, times, xs, b, [7, c, l], rfl, h0.ext (same_new hb), upd_same, hl, fun H1 h1 => k H1 h1⟩
/-! counters -/
def asksF (f : Int) (n : Nat) : List (List Int) := (List.range n).map fun (k : Nat) => [f, (k : Int)]
theorem asksF_succ (f : Int) (n : Nat) : (asksF f (n + 1)).flatMap id = (asksF f n).flatMap id ++ [f, (n : Int)] := by
  unfold asksF
  rw [List.range_succ, List.map_append, List.flatMap_append]
  rfl
theorem asksF_len (f : Int) : ∀ n : Nat, ((asksF f n).flatMap id).length = 2 * n
  | 0 => rfl
  | n + 1 => by
    rw [asksF_succ, List.length_append, asksF_len f n]
    show 2 * n + 2 = _
    omega
def sp_counters (C : Addr) : Sp := fun vs H Q _ => ∃ (G : Hp) (r dr told q : Addr) (heard times : Nat) (xs Tl : List Int) (f : Int) (n : Nat), vs = [.ref r, .int f, vN n] ∧ Sep G H (arC C r dr told q heard times xs) ∧ G told = some (.lst (Tl.map V.int)) ∧ heard + n ≤ Tl.length ∧ n ≤ 8 ∧ xs.length + 20 ≤ 1000000 ∧
  ∀ (H' : Hp) (p : Addr), Sep G H' (arC C r dr told q (heard + n) (times + n) (xs ++ (asksF f n).flatMap id)) → H' p = some (.lst (((Tl.drop heard).take n).map V.int)) → Q (.ref p) H'
theorem sc_counters : FnScope ["self", "function", "count", "which"] ["self", "function", "count"] (defScope s_Around_counters) := ⟨rfl, rfl, rfl, by decide +kernel, rfl, by decide +kernel, by decide +kernel⟩
theorem ok_counters (T : Txt K mg a) : FnOk P w K mg base CX0 3 a.f_Around_counters a.d_Around_counters ["self", "function", "count"] (sp_counters a.cAround) := by
  refine T.F_Around_counters.ok sc_counters (fun vs H Q E h => ?_) (fun cdv A outer s H vs Q E hr h => ?_)
  · obtain ⟨G, r, dr, told, q, heard, times, xs, Tl, f, n, rfl, _⟩ := h
    rfl
  · obtain ⟨G, r, dr, told, q, heard, times, xs, Tl, f, n, rfl, h0, hT, hn, hn8, hl, k⟩ := h
    have nd := sc_counters.nd
    refine ⟨_, pss_one (ps_ret (pe_lc (own := [("which", 3)]) rfl nd (pi_range1 (by rfl) T.n_range (pa_cons (pv 2) pa_nil)) (blkOk_by (by kernel_rfl)) (fun _ _ _ _ _ => pg_name (i := 3) nd rfl (Or.inl rfl) (Or.inr rfl)) (fun _ _ _ _ _ => pts_nil)
      (fun _ _ _ _ _ => pe_meth (pv 0) T.cl_Around T.me_Around_ask (ok_ask T) hr T.b_Around_ask .nil pass0 (pa_cons (pv 1) (pa_cons (pv 3) pa_nil))))), ?_⟩
    have hs := szl
    refine ⟨_, rfl, _, rfl, by omega, by omega, fun D hD => ?_⟩
    rw [Int.toNat_natCast]
    refine lc_range (fun i H' => Sep G H' (arC a.cAround r dr told q (heard + i) (times + i) (xs ++ (asksF f i).flatMap id) ++ [(D, .lst (((Tl.drop heard).take i).map V.int))])) ?_ ?_ ?_
    · have h1 := h0.new (o := .lst []) hD
      have h2 := h1.perm (ds := arC a.cAround r dr told q heard times xs ++ [(D, .lst [])]) (List.perm_append_comm (l₁ := [(D, HO.lst [])]))
      rw [show xs ++ (asksF f 0).flatMap id = xs from List.append_nil _]
      exact h2
    · intro i H' hi h1
      have hz : Tl[heard + i]? = some Tl[heard + i] := List.getElem?_eq_getElem (by omega)
      have e0 : (0 : Int) + (i : Int) = (i : Int) := by omega
      refine ⟨rfl, ?_⟩
      have hlen : (xs ++ (asksF f i).flatMap id).length = xs.length + 2 * i := by rw [List.length_append, asksF_len]
      refine ⟨_, rfl, r, dr, _, rfl, h1.at 0, arM_ask, _, rfl, _, rfl, addC G [(D, .lst (((Tl.drop heard).take i).map V.int))], r, dr, told, q, heard + i, times + i, _, Tl, f, (i : Int), Tl[heard + i], ?_, h1.lend _, addC_of h1 hT, hz, by omega, fun H2 h2 => ?_⟩
      · rw [e0]; rfl
      · have h3 := h1.back h2
        refine ⟨_, h3.at 2, ?_, ?_⟩
        · rw [List.length_map, List.length_take]; omega
        · have h4 := h3.set 2 (.lst (((Tl.drop heard).take (i + 1)).map V.int))
          have e1 : ((Tl.drop heard).take i).map V.int ++ [V.int Tl[heard + i]] = ((Tl.drop heard).take (i + 1)).map V.int := by
            rw [take_succ (x := Tl[heard + i]) (by rw [List.getElem?_drop]; exact hz), List.map_append]
            rfl
          rw [e1]
          rw [asksF_succ, ← List.append_assoc]
          exact h4
    · intro H' h1
      have h2 : Sep G H' (arC a.cAround r dr told q (heard + n) (times + n) (xs ++ (asksF f n).flatMap id)) := by
        have h3 := h1.perm (ds := (D, HO.lst (((Tl.drop heard).take n).map V.int)) :: arC a.cAround r dr told q (heard + n) (times + n) (xs ++ (asksF f n).flatMap id)) (List.perm_append_comm (l₂ := [(D, _)]))
        exact h3.drop1
      exact k H' D h2 (h1.at 2)
end
end Hs
end
section
set_option Elab.async false
set_option linter.all false
set_option maxRecDepth 100000
set_option maxHeartbeats 4000000
namespace Hs
open PySem PySem.Spec PyProof.Rows L2
open Kp123 (Setup)
section
variable {P : Program} {w : World} {K : PySem.W.Frag} {mg : Str → Option Value} {base : Heap} {a : Ad}
/-! ### Reader -/
def reO (C dx n0 : Addr) (pos : Nat) : HO := .ins C dx (reF (.ref n0) (vN pos))
def sp_Reader_init (C : Addr) : Sp := fun vs H Q _ => ∃ (G : Hp) (x dx n0 : Addr), vs = [.ref x, .ref n0] ∧ Sep G H [(x, .ins C dx [])] ∧ ∀ H' : Hp, Sep G H' [(x, reO C dx n0 0)] → Q .non H'
theorem sc_Reader_init : FnScope ["self", "numbers"] ["self", "numbers"] (defScope s_Reader_init) := ⟨rfl, rfl, rfl, by decide +kernel, rfl, by decide +kernel, by decide +kernel⟩
theorem ok_Reader_init (T : Txt K mg a) : FnOk P w K mg base CX0 1 a.f_Reader_init a.d_Reader_init ["self", "numbers"] (sp_Reader_init a.cReader) := by
  refine T.F_Reader_init.ok sc_Reader_init (fun vs H Q E h => ?_) (fun cdv A outer s H vs Q E hr h => ?_)
  · obtain ⟨G, x, dx, t, rfl, _⟩ := h
    rfl
  · obtain ⟨G, x, dx, t, rfl, h0, k⟩ := h
    refine ⟨_, pss_cons (ps_fld (pv 0) (pv 1) rfl) (pss_one (ps_fld (pv 0) pe_int rfl)), ?_⟩
    refine ⟨_, rfl, _, rfl, x, _, dx, _, rfl, h0.at 0, T.cl_Reader, T.no_Reader_numbers, (by show 0 < 1000; decide), ?_⟩
    have h1 := h0.set 0 (.ins a.cReader dx [("numbers", V.ref t)])
    refine ⟨_, rfl, x, _, dx, _, rfl, h1.at 0, T.cl_Reader, T.no_Reader_place, (by show 1 < 1000; decide), ?_⟩
    rw [reI1]
    exact k _ (h1.set 0 (.ins a.cReader dx [("numbers", V.ref t), ("place", V.int 0)]))
def sp_at_end (C : Addr) (K : PySem.W.Frag) : Sp := fun vs H Q _ => ∃ (x dx n0 : Addr) (pos : Nat) (ns : List Int), vs = [.ref x] ∧ H x = some (reO C dx n0 pos) ∧ SqL K H n0 (ns.map V.int) ∧ Q (.bl (decide (ns.length ≤ pos))) H
theorem sc_at_end : FnScope ["self"] ["self"] (defScope s_Reader_at_end) := ⟨rfl, rfl, rfl, by decide +kernel, rfl, by decide +kernel, by decide +kernel⟩
theorem ok_at_end (T : Txt K mg a) : FnOk P w K mg base CX0 1 a.f_Reader_at_end a.d_Reader_at_end ["self"] (sp_at_end a.cReader K) := by
  refine T.F_Reader_at_end.ok sc_at_end (fun vs H Q E h => ?_) (fun cdv A outer s H vs Q E hr h => ?_)
  · obtain ⟨x, dx, n0, pos, ns, rfl, _⟩ := h
    rfl
  · obtain ⟨x, dx, n0, pos, ns, rfl, hx, hn, k⟩ := h
    refine ⟨_, pss_one (ps_ret (pe_cmpR op_ge (pe_fld (pv 0) rfl) (pe_callB call_len_seq (by rfl) T.n_len PySem.boot_len (pa_cons (pe_fld (pv 0) rfl) pa_nil)) (nomark _))), ?_⟩
    refine ⟨_, rfl, x, _, dx, _, _, rfl, hx, T.cl_Reader, T.no_Reader_place, reF_place, _, rfl, x, _, dx, _, _, rfl, hx, T.cl_Reader, T.no_Reader_numbers, reF_numbers, n0, _, rfl, .inl hn, _, _, rfl, rfl, ?_⟩
    have e : decide ((ns.length : Int) ≤ (pos : Int)) = decide (ns.length ≤ pos) := decide_eq_decide.mpr (by omega)
    show Q (V.bl (decide (((ns.map V.int).length : Int) ≤ (pos : Int)))) H
    rw [List.length_map, e]
    exact k
def sp_number (C : Addr) (K : PySem.W.Frag) : Sp := fun vs H Q _ => ∃ (G : Hp) (x dx n0 : Addr) (pos : Nat) (ns : List Int) (z : Int) (rest : List Int), vs = [.ref x] ∧ Sep G H [(x, reO C dx n0 pos)] ∧ SqL K G n0 (ns.map V.int) ∧ ns.drop pos = z :: rest ∧
  ∀ H' : Hp, Sep G H' [(x, reO C dx n0 (pos + 1))] → Q (.int z) H'
theorem drop_get {α : Type} {l : List α} {n : Nat} {z : α} {r : List α} (h : l.drop n = z :: r) : l[n]? = some z ∧ l.drop (n + 1) = r := by
  have h1 := congrArg (fun l => l[0]?) h
  have h2 := congrArg List.tail h
  simp only [List.getElem?_drop, Nat.add_zero] at h1
  rw [List.tail_drop] at h2
  exact ⟨h1, h2⟩
theorem sc_number : FnScope ["self"] ["self"] (defScope s_Reader_number) := ⟨rfl, rfl, rfl, by decide +kernel, rfl, by decide +kernel, by decide +kernel⟩
theorem ok_number (T : Txt K mg a) : FnOk P w K mg base CX0 1 a.f_Reader_number a.d_Reader_number ["self"] (sp_number a.cReader K) := by
  refine T.F_Reader_number.ok sc_number (fun vs H Q E h => ?_) (fun cdv A outer s H vs Q E hr h => ?_)
  · obtain ⟨G, x, dx, n0, pos, ns, z, rest, rfl, _⟩ := h
    rfl
  · obtain ⟨G, x, dx, n0, pos, ns, z, rest, rfl, h0, hn, hd, k⟩ := h
    refine ⟨_, pss_cons (ps_fldaug (pv 0) pe_int in_add) (pss_one (ps_ret (pe_ix ix_list (pe_fld (pv 0) rfl) (pe_op op_sub (pe_fld (pv 0) rfl) pe_int) (fun _ _ => rfl)))), ?_⟩
    refine ⟨_, rfl, x, _, dx, _, _, rfl, h0.at 0, T.cl_Reader, T.no_Reader_place, reF_place, _, _, rfl, rfl, dx, _, h0.at 0, reL, ?_⟩
    rw [reP_place]
    have h1 := h0.set 0 (reO a.cReader dx n0 (pos + 1))
    refine ⟨_, rfl, x, _, dx, _, _, rfl, h1.at 0, T.cl_Reader, T.no_Reader_numbers, reF_numbers, _, rfl, x, _, dx, _, _, rfl, h1.at 0, T.cl_Reader, T.no_Reader_place, reF_place, _, _, rfl, rfl, n0, _, _, V.int z, rfl, rfl, h1.same.seq hn, at_of (j := pos) (by omega) (by rw [List.getElem?_map, (drop_get hd).1]; rfl), ?_⟩
    exact k _ h1
def sp_row (C : Addr) (K : PySem.W.Frag) : Sp := fun vs H Q _ => ∃ (G : Hp) (x dx n0 : Addr) (pos : Nat) (ns ys rest : List Int), vs = [.ref x] ∧ Sep G H [(x, reO C dx n0 pos)] ∧ SqL K G n0 (ns.map V.int) ∧ ns.drop pos = (ys.length : Int) :: (ys ++ rest) ∧
  ∀ (H' : Hp) (p : Addr) (pos' : Nat), Sep G H' [(p, .lst (ys.map V.int)), (x, reO C dx n0 pos')] → ns.drop pos' = rest → Q (.ref p) H'
theorem sc_row : FnScope ["self", "length"] ["self"] (defScope s_Reader_row) := ⟨rfl, rfl, rfl, by decide +kernel, rfl, by decide +kernel, by decide +kernel⟩
theorem ok_row (T : Txt K mg a) : FnOk P w K mg base CX0 2 a.f_Reader_row a.d_Reader_row ["self"] (sp_row a.cReader K) := by
  refine T.F_Reader_row.ok sc_row (fun vs H Q E h => ?_) (fun cdv A outer s H vs Q E hr h => ?_)
  · obtain ⟨G, x, dx, n0, pos, ns, ys, rest, rfl, _⟩ := h
    rfl
  · obtain ⟨G, x, dx, n0, pos, ns, ys, rest, rfl, h0, hn, hd, k⟩ := h
    have nd := sc_row.nd
    refine ⟨_, pss_cons (ps_set (i := 1) nd rfl (Or.inl rfl) (pe_meth0 (pv 0) T.cl_Reader T.me_Reader_number (ok_number T) hr T.b_Reader_number .nil pass0))
      (pss_cons (ps_fldaug (pv 0) (pv 1) in_add)
      (pss_one (ps_ret (pe_slice sl_list (pe_fld (pv 0) rfl) (po_some (pe_op op_sub (pe_fld (pv 0) rfl) (pv 1))) (po_some (pe_fld (pv 0) rfl)))))), ?_⟩
    refine ⟨_, rfl, x, dx, _, rfl, h0.at 0, reM_number, G, x, dx, n0, pos, ns, _, _, rfl, h0, hn, hd, fun H1 h1 => ?_⟩
    refine ⟨_, rfl, x, _, dx, _, _, rfl, h1.at 0, T.cl_Reader, T.no_Reader_place, reF_place, _, rfl, _, _, rfl, rfl, dx, _, h1.at 0, reL, ?_⟩
    rw [reP_place]
    have h2 := h1.set 0 (reO a.cReader dx n0 (pos + 1 + ys.length))
    refine ⟨_, rfl, x, _, dx, _, _, rfl, h2.at 0, T.cl_Reader, T.no_Reader_numbers, reF_numbers, _, rfl, x, _, dx, _, _, rfl, h2.at 0, T.cl_Reader, T.no_Reader_place, reF_place, _, rfl, _, _, rfl, rfl, _, rfl, _, rfl, x, _, dx, _, _, rfl, h2.at 0, T.cl_Reader, T.no_Reader_place, reF_place, _, rfl, n0, _, rfl, h2.same.seq hn, fun p hp => ?_⟩
    have hdr := (drop_get hd).2
    have hlen : pos + 1 + ys.length ≤ ns.length := by
      have := congrArg List.length hdr
      rw [List.length_drop, List.length_append] at this
      by_cases h : pos + 1 ≤ ns.length
      · omega
      · have h3 : ns.drop pos = [] := List.drop_of_length_le (by omega)
        rw [h3] at hd
        cases hd
    have e1 : ((pos + 1 + ys.length : Nat) : Int) - (ys.length : Int) = ((pos + 1 : Nat) : Int) := by omega
    have e2 : cutV (ns.map V.int) (some (((pos + 1 + ys.length : Nat) : Int) - (ys.length : Int))) (some ((pos + 1 + ys.length : Nat) : Int)) = ys.map V.int := by
      unfold cutV
      rw [e1, HT.sIx_nat, HT.sIx_nat, List.length_map, Nat.min_eq_left (show pos + 1 ≤ ns.length by omega), Nat.min_eq_left hlen, ← List.map_drop, ← List.map_take, hdr, show pos + 1 + ys.length - (pos + 1) = ys.length by omega, List.take_left']
      rfl
    rw [e2]
    refine k _ p (pos + 1 + ys.length) (h2.new hp) ?_
    rw [← List.drop_drop, hdr, List.drop_left']
    rfl
/-! ### Setup -/
def sp_Setup_init (C R : Addr) (K : PySem.W.Frag) : Sp := fun vs H Q _ => ∃ (G : Hp) (x dx rd drd n0 : Addr) (pos : Nat) (ns : List Int) (c s m z : Int) (v t p q i o f rest : List Int), vs = [.ref x, .ref rd] ∧ Sep G H [(x, .ins C dx []), (rd, reO R drd n0 pos)] ∧ SqL K G n0 (ns.map V.int) ∧
  ns.drop pos = c :: s :: m :: z :: ((v.length : Int) :: (v ++ ((t.length : Int) :: (t ++ ((p.length : Int) :: (p ++ ((q.length : Int) :: (q ++ ((i.length : Int) :: (i ++ ((o.length : Int) :: (o ++ ((f.length : Int) :: (f ++ rest)))))))))))))) ∧
  ∀ (H' : Hp) (av at' ap aq ai ao af : Addr) (pos' : Nat), Sep G H' [(x, .ins C dx (suF (.int c) (.int s) (.int m) (.int z) (.ref av) (.ref at') (.ref ap) (.ref aq) (.ref ai) (.ref ao) (.ref af))), (rd, reO R drd n0 pos'),
    (af, .lst (f.map V.int)), (ao, .lst (o.map V.int)), (ai, .lst (i.map V.int)), (aq, .lst (q.map V.int)), (ap, .lst (p.map V.int)), (at', .lst (t.map V.int)), (av, .lst (v.map V.int))] → ns.drop pos' = rest → Q .non H'
theorem sc_Setup_init : FnScope ["self", "reader"] ["self", "reader"] (defScope s_Setup_init) := ⟨rfl, rfl, rfl, by decide +kernel, rfl, by decide +kernel, by decide +kernel⟩
/-- a number is read while the cells x stand before the reader, the cells ds behind -/
theorem read_number {C R : Addr} {H : Hp} {G : Hp} {x rd drd n0 : Addr} {o : HO} {pos : Nat} {ds : Cells} {ns : List Int} {z : Int} {rest : List Int} {Q : V → Hp → Prop} {E : XK} {σ : L2.St}
    (h : Sep G H ((x, o) :: (rd, reO R drd n0 pos) :: ds)) (hn : SqL K G n0 (ns.map V.int)) (hd : ns.drop pos = z :: rest)
    (k : ∀ H', Sep G H' ((x, o) :: (rd, reO R drd n0 (pos + 1)) :: ds) → Q (.int z) H') : tNil σ H fun vs H2 => sp_number R K (V.ref rd :: (vs ++ [])) H2 Q E := by
  have h1 : Sep G H ([(rd, reO R drd n0 pos)] ++ ((x, o) :: ds)) := h.perm (.swap _ _ _)
  refine ⟨addC G ((x, o) :: ds), rd, drd, n0, pos, ns, z, rest, rfl, h1.lend _, ?_, hd, fun H' h' => k H' ((h1.back h').perm (.swap _ _ _))⟩
  rcases hn with (hn | ⟨ob, hn⟩) | hn
  · exact .inl (.inl (addC_of h1 hn))
  · exact .inl (.inr ⟨ob, addC_of h1 hn⟩)
  · exact .inr hn
theorem read_row {C R : Addr} {H : Hp} {G : Hp} {x rd drd n0 : Addr} {o : HO} {pos : Nat} {ds : Cells} {ns ys rest : List Int} {Q : V → Hp → Prop} {E : XK} {σ : L2.St}
    (h : Sep G H ((x, o) :: (rd, reO R drd n0 pos) :: ds)) (hn : SqL K G n0 (ns.map V.int)) (hd : ns.drop pos = (ys.length : Int) :: (ys ++ rest))
    (k : ∀ H' p pos', Sep G H' ((x, o) :: (rd, reO R drd n0 pos') :: (p, .lst (ys.map V.int)) :: ds) → ns.drop pos' = rest → Q (.ref p) H') : tNil σ H fun vs H2 => sp_row R K (V.ref rd :: (vs ++ [])) H2 Q E := by
  have h1 : Sep G H ([(rd, reO R drd n0 pos)] ++ ((x, o) :: ds)) := h.perm (.swap _ _ _)
  refine ⟨addC G ((x, o) :: ds), rd, drd, n0, pos, ns, ys, rest, rfl, h1.lend _, ?_, hd, fun H' p pos' h' hp => k H' p pos' ?_ hp⟩
  · rcases hn with (hn | ⟨ob, hn⟩) | hn
    · exact .inl (.inl (addC_of h1 hn))
    · exact .inl (.inr ⟨ob, addC_of h1 hn⟩)
    · exact .inr hn
  · have h2 := h1.back h'
    -- p, rd, x, ds  to  x, rd, p, ds
    refine h2.perm ?_
    exact ((List.Perm.swap _ _ _).trans (.cons _ (.swap _ _ _))).trans (.swap _ _ _)
theorem ok_Setup_init (T : Txt K mg a) : FnOk P w K mg base CX0 3 a.f_Setup_init a.d_Setup_init ["self", "reader"] (sp_Setup_init a.cSetup a.cReader K) := by
  refine T.F_Setup_init.ok sc_Setup_init (fun vs H Q E h => ?_) (fun cdv A outer s H vs Q E hr h => ?_)
  · obtain ⟨G, x, dx, rd, drd, n0, pos, ns, c, s, m, z, v, t, p, q, i, o, f, rest, rfl, _⟩ := h
    rfl
  · obtain ⟨G, x, dx, rd, drd, n0, pos, ns, c, s, m, z, v, t, p, q, i, o, f, rest, rfl, h0, hn, hd, k⟩ := h
    have hr1 : Room 1 _ := hr.mono (by decide)
    refine ⟨_, pss_cons (ps_fld (pv 0) (pe_meth0 (pv 1) T.cl_Reader T.me_Reader_number (ok_number T) hr1 T.b_Reader_number .nil pass0) rfl)
      (pss_cons (ps_fld (pv 0) (pe_meth0 (pv 1) T.cl_Reader T.me_Reader_number (ok_number T) hr1 T.b_Reader_number .nil pass0) rfl)
      (pss_cons (ps_fld (pv 0) (pe_meth0 (pv 1) T.cl_Reader T.me_Reader_number (ok_number T) hr1 T.b_Reader_number .nil pass0) rfl)
      (pss_cons (ps_fld (pv 0) (pe_meth0 (pv 1) T.cl_Reader T.me_Reader_number (ok_number T) hr1 T.b_Reader_number .nil pass0) rfl)
      (pss_cons (ps_fld (pv 0) (pe_meth0 (pv 1) T.cl_Reader T.me_Reader_row (ok_row T) hr T.b_Reader_row .nil pass0) rfl)
      (pss_cons (ps_fld (pv 0) (pe_meth0 (pv 1) T.cl_Reader T.me_Reader_row (ok_row T) hr T.b_Reader_row .nil pass0) rfl)
      (pss_cons (ps_fld (pv 0) (pe_meth0 (pv 1) T.cl_Reader T.me_Reader_row (ok_row T) hr T.b_Reader_row .nil pass0) rfl)
      (pss_cons (ps_fld (pv 0) (pe_meth0 (pv 1) T.cl_Reader T.me_Reader_row (ok_row T) hr T.b_Reader_row .nil pass0) rfl)
      (pss_cons (ps_fld (pv 0) (pe_meth0 (pv 1) T.cl_Reader T.me_Reader_row (ok_row T) hr T.b_Reader_row .nil pass0) rfl)
      (pss_cons (ps_fld (pv 0) (pe_meth0 (pv 1) T.cl_Reader T.me_Reader_row (ok_row T) hr T.b_Reader_row .nil pass0) rfl)
      (pss_one (ps_fld (pv 0) (pe_meth0 (pv 1) T.cl_Reader T.me_Reader_row (ok_row T) hr T.b_Reader_row .nil pass0) rfl))))))))))), ?_⟩
    refine ⟨_, rfl, rd, drd, _, rfl, h0.at 1, reM_number, ?_⟩
    refine read_number (C := a.cSetup) h0 hn hd fun H1 h1 => ?_
    have hd := (drop_get hd).2
    refine ⟨_, rfl, x, _, dx, _, rfl, h1.at 0, T.cl_Setup, T.no_Setup_kinds, (by show 0 < 1000; decide), ?_⟩
    have h1 := h1.set 0 (.ins a.cSetup dx [("kinds", V.int c)])
    refine ⟨_, rfl, rd, drd, _, rfl, h1.at 1, reM_number, ?_⟩
    refine read_number (C := a.cSetup) h1 hn hd fun H2 h2 => ?_
    have hd := (drop_get hd).2
    refine ⟨_, rfl, x, _, dx, _, rfl, h2.at 0, T.cl_Setup, T.no_Setup_slots, (by show 1 < 1000; decide), ?_⟩
    rw [suI1]
    have h2 := h2.set 0 (.ins a.cSetup dx [("kinds", V.int c), ("slots", V.int s)])
    refine ⟨_, rfl, rd, drd, _, rfl, h2.at 1, reM_number, ?_⟩
    refine read_number (C := a.cSetup) h2 hn hd fun H3 h3 => ?_
    have hd := (drop_get hd).2
    refine ⟨_, rfl, x, _, dx, _, rfl, h3.at 0, T.cl_Setup, T.no_Setup_most, (by show 2 < 1000; decide), ?_⟩
    rw [suI2]
    have h3 := h3.set 0 (.ins a.cSetup dx [("kinds", V.int c), ("slots", V.int s), ("most", V.int m)])
    refine ⟨_, rfl, rd, drd, _, rfl, h3.at 1, reM_number, ?_⟩
    refine read_number (C := a.cSetup) h3 hn hd fun H4 h4 => ?_
    have hd := (drop_get hd).2
    refine ⟨_, rfl, x, _, dx, _, rfl, h4.at 0, T.cl_Setup, T.no_Setup_none, (by show 3 < 1000; decide), ?_⟩
    rw [suI3]
    have h4 := h4.set 0 (.ins a.cSetup dx [("kinds", V.int c), ("slots", V.int s), ("most", V.int m), ("none", V.int z)])
    refine ⟨_, rfl, rd, drd, _, rfl, h4.at 1, reM_row, ?_⟩
    refine read_row (C := a.cSetup) h4 hn hd fun H5 av pos5 h5 hd => ?_
    refine ⟨_, rfl, x, _, dx, _, rfl, h5.at 0, T.cl_Setup, T.no_Setup_value, (by show 4 < 1000; decide), ?_⟩
    rw [suI4]
    have h5 := h5.set 0 (.ins a.cSetup dx [("kinds", V.int c), ("slots", V.int s), ("most", V.int m), ("none", V.int z), ("value", V.ref av)])
    refine ⟨_, rfl, rd, drd, _, rfl, h5.at 1, reM_row, ?_⟩
    refine read_row (C := a.cSetup) h5 hn hd fun H6 at' pos6 h6 hd => ?_
    refine ⟨_, rfl, x, _, dx, _, rfl, h6.at 0, T.cl_Setup, T.no_Setup_tube, (by show 5 < 1000; decide), ?_⟩
    rw [suI5]
    have h6 := h6.set 0 (.ins a.cSetup dx [("kinds", V.int c), ("slots", V.int s), ("most", V.int m), ("none", V.int z), ("value", V.ref av), ("tube", V.ref at')])
    refine ⟨_, rfl, rd, drd, _, rfl, h6.at 1, reM_row, ?_⟩
    refine read_row (C := a.cSetup) h6 hn hd fun H7 ap pos7 h7 hd => ?_
    refine ⟨_, rfl, x, _, dx, _, rfl, h7.at 0, T.cl_Setup, T.no_Setup_price, (by show 6 < 1000; decide), ?_⟩
    rw [suI6]
    have h7 := h7.set 0 (.ins a.cSetup dx [("kinds", V.int c), ("slots", V.int s), ("most", V.int m), ("none", V.int z), ("value", V.ref av), ("tube", V.ref at'), ("price", V.ref ap)])
    refine ⟨_, rfl, rd, drd, _, rfl, h7.at 1, reM_row, ?_⟩
    refine read_row (C := a.cSetup) h7 hn hd fun H8 aq pos8 h8 hd => ?_
    refine ⟨_, rfl, x, _, dx, _, rfl, h8.at 0, T.cl_Setup, T.no_Setup_stock, (by show 7 < 1000; decide), ?_⟩
    rw [suI7]
    have h8 := h8.set 0 (.ins a.cSetup dx [("kinds", V.int c), ("slots", V.int s), ("most", V.int m), ("none", V.int z), ("value", V.ref av), ("tube", V.ref at'), ("price", V.ref ap), ("stock", V.ref aq)])
    refine ⟨_, rfl, rd, drd, _, rfl, h8.at 1, reM_row, ?_⟩
    refine read_row (C := a.cSetup) h8 hn hd fun H9 ai pos9 h9 hd => ?_
    refine ⟨_, rfl, x, _, dx, _, rfl, h9.at 0, T.cl_Setup, T.no_Setup_in0, (by show 8 < 1000; decide), ?_⟩
    rw [suI8]
    have h9 := h9.set 0 (.ins a.cSetup dx [("kinds", V.int c), ("slots", V.int s), ("most", V.int m), ("none", V.int z), ("value", V.ref av), ("tube", V.ref at'), ("price", V.ref ap), ("stock", V.ref aq), ("in0", V.ref ai)])
    refine ⟨_, rfl, rd, drd, _, rfl, h9.at 1, reM_row, ?_⟩
    refine read_row (C := a.cSetup) h9 hn hd fun H10 ao pos10 h10 hd => ?_
    refine ⟨_, rfl, x, _, dx, _, rfl, h10.at 0, T.cl_Setup, T.no_Setup_out0, (by show 9 < 1000; decide), ?_⟩
    rw [suI9]
    have h10 := h10.set 0 (.ins a.cSetup dx [("kinds", V.int c), ("slots", V.int s), ("most", V.int m), ("none", V.int z), ("value", V.ref av), ("tube", V.ref at'), ("price", V.ref ap), ("stock", V.ref aq), ("in0", V.ref ai), ("out0", V.ref ao)])
    refine ⟨_, rfl, rd, drd, _, rfl, h10.at 1, reM_row, ?_⟩
    refine read_row (C := a.cSetup) h10 hn hd fun H11 af pos11 h11 hd => ?_
    refine ⟨_, rfl, x, _, dx, _, rfl, h11.at 0, T.cl_Setup, T.no_Setup_fell0, (by show 10 < 1000; decide), ?_⟩
    rw [suI10]
    have h11 := h11.set 0 (.ins a.cSetup dx [("kinds", V.int c), ("slots", V.int s), ("most", V.int m), ("none", V.int z), ("value", V.ref av), ("tube", V.ref at'), ("price", V.ref ap), ("stock", V.ref aq), ("in0", V.ref ai), ("out0", V.ref ao), ("fell0", V.ref af)])
    exact k _ av at' ap aq ai ao af pos11 h11 hd
/-! ### Machine -/
def maO (C dx : Addr) (su : V) (l1 l2 : Addr) : HO := .ins C dx (maF su (.ref l1) (.ref l2))
def sp_Machine_init (C : Addr) : Sp := fun vs H Q _ => ∃ (G : Hp) (x dx : Addr), vs = [.ref x] ∧ Sep G H [(x, .ins C dx [])] ∧ ∀ (H' : Hp) (l1 l2 : Addr), Sep G H' [(x, maO C dx .non l1 l2), (l2, .lst []), (l1, .lst [])] → Q .non H'
theorem sc_Machine_init : FnScope ["self"] ["self"] (defScope s_Machine_init) := ⟨rfl, rfl, rfl, by decide +kernel, rfl, by decide +kernel, by decide +kernel⟩
theorem ok_Machine_init (T : Txt K mg a) : FnOk P w K mg base CX0 1 a.f_Machine_init a.d_Machine_init ["self"] (sp_Machine_init a.cMachine) := by
  refine T.F_Machine_init.ok sc_Machine_init (fun vs H Q E h => ?_) (fun cdv A outer s H vs Q E hr h => ?_)
  · obtain ⟨G, x, dx, rfl, _⟩ := h
    rfl
  · obtain ⟨G, x, dx, rfl, h0, k⟩ := h
    refine ⟨_, pss_cons (ps_fld (pv 0) pe_non rfl) (pss_cons (ps_fld (pv 0) (pe_lst pa_nil) rfl) (pss_one (ps_fld (pv 0) (pe_lst pa_nil) rfl))), ?_⟩
    refine ⟨_, rfl, x, _, dx, _, rfl, h0.at 0, T.cl_Machine, T.no_Machine_setup, (by show 0 < 1000; decide), ?_⟩
    have h1 := h0.set 0 (.ins a.cMachine dx [("setup", V.non)])
    refine ⟨Nat.zero_le _, fun l1 hl1 => ?_⟩
    have h2 := h1.new (o := .lst []) hl1
    refine ⟨_, rfl, x, _, dx, _, rfl, h2.at 1, T.cl_Machine, T.no_Machine_stuck, (by show 1 < 1000; decide), ?_⟩
    rw [maI1]
    have h3 := h2.set 1 (.ins a.cMachine dx [("setup", V.non), ("stuck", V.ref l1)])
    refine ⟨Nat.zero_le _, fun l2 hl2 => ?_⟩
    have h4 := h3.new (o := .lst []) hl2
    refine ⟨_, rfl, x, _, dx, _, rfl, h4.at 2, T.cl_Machine, T.no_Machine_failed, (by show 2 < 1000; decide), ?_⟩
    rw [maI2]
    have h5 := h4.set 2 (.ins a.cMachine dx [("setup", V.non), ("stuck", V.ref l1), ("failed", V.ref l2)])
    refine k _ l1 l2 (h5.perm ?_)
    exact ((List.Perm.cons _ (.swap _ _ _))).trans (.swap _ _ _)
def sp_begin (C D : Addr) : Sp := fun vs H Q _ => ∃ (G : Hp) (x dx su : Addr) (S : Setup) (B : SuA) (y : V) (l1 l2 : Addr), vs = [.ref x, .ref su] ∧ Sep G H [(x, maO C dx y l1 l2)] ∧ SetupAt D G su S B ∧ SOk S ∧
  ∀ (H' : Hp) (m1 m2 : Addr), Sep G H' [(x, maO C dx (.ref su) m1 m2), (m2, .lst (List.replicate S.slots (V.bl false))), (m1, .lst (List.replicate S.kinds (V.bl false)))] → Q .non H'
theorem sc_begin : FnScope ["self", "setup"] ["self", "setup"] (defScope s_Machine_begin) := ⟨rfl, rfl, rfl, by decide +kernel, rfl, by decide +kernel, by decide +kernel⟩
theorem ok_begin (T : Txt K mg a) : FnOk P w K mg base CX0 1 a.f_Machine_begin a.d_Machine_begin ["self", "setup"] (sp_begin a.cMachine a.cSetup) := by
  refine T.F_Machine_begin.ok sc_begin (fun vs H Q E h => ?_) (fun cdv A outer s H vs Q E hr h => ?_)
  · obtain ⟨G, x, dx, su, S, B, y, l1, l2, rfl, _⟩ := h
    rfl
  · obtain ⟨G, x, dx, su, S, B, y, l1, l2, rfl, h0, hS, ho, k⟩ := h
    refine ⟨_, pss_cons (ps_fld (pv 0) (pv 1) rfl) (pss_cons (ps_fld (pv 0) (pe_op op_rep (pe_lst (pa_cons pe_bl pa_nil)) (pe_fld (pv 1) rfl)) rfl) (pss_one (ps_fld (pv 0) (pe_op op_rep (pe_lst (pa_cons pe_bl pa_nil)) (pe_fld (pv 1) rfl)) rfl))), ?_⟩
    have hs := szl
    have k8 := ho.k8
    have s8 := ho.s8
    refine ⟨_, rfl, _, rfl, x, _, dx, _, rfl, h0.at 0, T.cl_Machine, T.no_Machine_setup, maL, ?_⟩
    rw [maP_setup]
    have h1 := h0.set 0 (maO a.cMachine dx (.ref su) l1 l2)
    refine ⟨by show 1 ≤ sizeLine; omega, fun b1 hb1 => ?_⟩
    have h2 := h1.ext (same_new (o := .lst [V.bl false]) hb1)
    refine ⟨_, rfl, su, _, _, _, _, rfl, h2.same _ _ hS.ob, T.cl_Setup, T.no_Setup_kinds, suF_kinds, b1, _, _, rfl, rfl, upd_same, by omega, by omega, (by show 1 * (S.kinds : Int).toNat ≤ sizeLine; omega), fun m1 hm1 => ?_⟩
    rw [flat_one, Int.toNat_natCast]
    have h3 := h2.new (o := .lst (List.replicate S.kinds (V.bl false))) hm1
    refine ⟨_, rfl, x, _, dx, _, rfl, h3.at 1, T.cl_Machine, T.no_Machine_stuck, maL, ?_⟩
    rw [maP_stuck]
    have h4 := h3.set 1 (maO a.cMachine dx (.ref su) m1 l2)
    refine ⟨by show 1 ≤ sizeLine; omega, fun b2 hb2 => ?_⟩
    have h5 := h4.ext (same_new (o := .lst [V.bl false]) hb2)
    refine ⟨_, rfl, su, _, _, _, _, rfl, h5.same _ _ hS.ob, T.cl_Setup, T.no_Setup_slots, suF_slots, b2, _, _, rfl, rfl, upd_same, by omega, by omega, (by show 1 * (S.slots : Int).toNat ≤ sizeLine; omega), fun m2 hm2 => ?_⟩
    rw [flat_one, Int.toNat_natCast]
    have h6 := h5.new (o := .lst (List.replicate S.slots (V.bl false))) hm2
    refine ⟨_, rfl, x, _, dx, _, rfl, h6.at 2, T.cl_Machine, T.no_Machine_failed, maL, ?_⟩
    rw [maP_failed]
    have h7 := h6.set 2 (maO a.cMachine dx (.ref su) m1 m2)
    refine k _ m1 m2 (h7.perm ?_)
    exact ((List.Perm.cons _ (.swap _ _ _))).trans (.swap _ _ _)
end
end Hs
end
section
set_option Elab.async false
set_option linter.all false
set_option maxRecDepth 100000
set_option maxHeartbeats 4000000
namespace Hs
open PySem PySem.Spec PyProof.Rows L2
open Kp123 (Setup Abs at_)
/-! ### a turn -/
structure TD where
  r : Addr
  dr : Addr
  q : Addr
  p : Addr
  dp : Addr
  hand : Addr
  left : Addr
  l1 : Addr
  l2 : Addr
  told : Addr
  m : Addr
  dm : Addr
  su : Addr
  val : Addr
  heard : Nat
  asks : List (List Int)
  a : Abs
def tuO (C dp m r val hand left : Addr) (credit : Int) : HO := .ins C dp (tuF (.ref m) (.ref r) (.ref val) (.ref hand) (.ref left) (.int credit))
def tuR (A : Ad) (d : TD) : Cells := [(d.p, tuO A.cTurn d.dp d.m d.r d.val d.hand d.left (Kp123.credit d.a.set d.a.w)), (d.hand, .lst ((handL d.a).map V.int)), (d.left, .lst ((leftL d.a).map V.int)),
  (d.l1, .lst ((stuckL d.a.set d.a.stuck).map V.bl)), (d.l2, .lst ((failedL d.a.set d.a.failed).map V.bl))]
def tuC (A : Ad) (d : TD) : Cells := arC A.cAround d.r d.dr d.told d.q d.heard d.asks.length (d.asks.flatMap id) ++ tuR A d
def valV (S : Setup) : List V := (List.range S.kinds).map fun k => vN (at_ S.value k)
structure TuOk (A : Ad) (G : Hp) (d : TD) (B : SuA) (Tl : List Int) : Prop where
  told : G d.told = some (.lst (Tl.map V.int))
  mach : G d.m = some (maO A.cMachine d.dm (.ref d.su) d.l1 d.l2)
  set : SetupAt A.cSetup G d.su d.a.set B
  val : G d.val = some (.lst (valV d.a.set))
  ok : AOk d.a
  lens : Lens d.a.set
  sz : (d.asks.flatMap id).length + 2 * (Tl.length - d.heard) ≤ 900000
theorem ixN_nat {n j : Nat} (h : j < n) : ixN n (j : Int) = some j := by
  unfold ixN
  rw [if_pos (by omega), if_pos (by omega), Int.toNat_natCast]
theorem coins_val (a : Abs) : (Kp123.coins a).map (fun x => vN x.1) = valV a.set := by
  unfold Kp123.coins valV
  rw [List.map_map]
  rfl
theorem coinsAt {A : Ad} {a : Abs} {H : Hp} {p q : Addr} (o : AOk a) (hp : H p = some (.lst (valV a.set))) (hq : H q = some (.lst ((Kp123.coins a).map fun x => vN x.2))) : CoinsAt H p q (Kp123.coins a) := by
  refine ⟨by rw [coins_val]; exact hp, hq, coins_pos o, fun x hx => ?_, fun x hx => ?_, by rw [coins_len]; exact o.s.k8⟩
  · obtain ⟨k, hk, e⟩ := List.mem_map.mp hx
    rw [← e]
    exact (o.s.val k (List.mem_range.mp hk)).2
  · obtain ⟨k, hk, e⟩ := List.mem_map.mp hx
    rw [← e]
    have := o.h1 k (List.mem_range.mp hk)
    show (if a.stuck.contains k = true then 0 else (Kp123.atHand a.set a.w k).toNat) ≤ 10000
    split <;> omega
section
variable {P : Program} {w : World} {K : PySem.W.Frag} {mg : Str → Option Value} {base : Heap} {a : Ad}
/-! usable -/
def usV : V → V → V
  | .int i, .bl b => if b = true then .int 0 else .int i
  | _, _ => .non
theorem usable_eq {a : Abs} (o : AOk a) : List.zipWith usV ((handL a).map V.int) ((stuckL a.set a.stuck).map V.bl) = (Kp123.coins a).map fun x => vN x.2 := by
  unfold handL stuckL Kp123.coins
  rw [List.map_map, List.map_map, List.map_map]
  refine zw (by rw [List.length_map, List.length_range]) (by rw [List.length_map, List.length_range]; exact Nat.le_refl _) fun i x y hi hx hy => ?_
  rw [get_rmap _ hi] at hx hy
  cases hx
  cases hy
  have h0 := o.h0 i hi
  show (if a.stuck.contains i = true then V.int 0 else V.int (Kp123.atHand a.set a.w i)) = V.int ((if a.stuck.contains i = true then 0 else (Kp123.atHand a.set a.w i).toNat : Nat) : Int)
  split
  · rfl
  · rw [Int.toNat_of_nonneg h0]
def sp_usable (A : Ad) : Sp := fun vs H Q _ => ∃ (G : Hp) (d : TD) (B : SuA) (Tl : List Int), vs = [.ref d.p] ∧ TuOk A G d B Tl ∧ Sep G H (tuC A d) ∧ ∀ (H' : Hp) (r : Addr), Same H H' → H' r = some (.lst ((Kp123.coins d.a).map fun x => vN x.2)) → Q (.ref r) H'
theorem sc_usable : FnScope ["self", "count", "stuck"] ["self"] (defScope s_Turn_usable) := ⟨rfl, rfl, rfl, by decide +kernel, rfl, by decide +kernel, by decide +kernel⟩
theorem ok_usable (T : Txt K mg a) : FnOk P w K mg base CX0 1 a.f_Turn_usable a.d_Turn_usable ["self"] (sp_usable a) := by
  refine T.F_Turn_usable.ok sc_usable (fun vs H Q E h => ?_) (fun cdv A outer s H vs Q E hr h => ?_)
  · obtain ⟨G, d, B, Tl, rfl, _⟩ := h
    rfl
  · obtain ⟨G, d, B, Tl, rfl, hT, h0, k⟩ := h
    have nd := sc_usable.nd
    refine ⟨_, pss_one (ps_ret (pe_lc (own := [("count", 1), ("stuck", 2)]) (g := gTup K 2 (gCons (gName 1) (gCons (gName 2) gNil))) (te := tIf (fun σ H Q => tVar 2 σ H fun x H' => ∃ k, TruV K x H' k ∧ Q k H') (tC (.int 0)) (tVar 1)) rfl nd (pi_zip (by rfl) T.n_zip (pa_cons (pe_fld (pv 0) rfl) (pa_cons (pe_fld (pe_fld (pv 0) rfl) rfl) pa_nil))) (blkOk_by (by kernel_rfl))
      (fun _ _ _ _ _ => pg_tup rfl (pgs_cons (pg_name (i := 1) nd rfl (Or.inl rfl) (Or.inr rfl)) (pgs_cons (pg_name (i := 2) nd rfl (Or.inl rfl) (Or.inr rfl)) pgs_nil))) (fun _ _ _ _ _ => pts_nil) (fun _ _ _ _ _ => pe_ifExp (pt_truth (pv 2) (fun _ => rfl)) pe_int (pv 1)))), ?_⟩
    refine ⟨_, rfl, d.p, _, d.dp, _, _, rfl, h0.at 2, T.cl_Turn, T.no_Turn_at_hand, tuF_at_hand, _, rfl, d.p, _, d.dp, _, _, rfl, h0.at 2, T.cl_Turn, T.no_Turn_machine, tuF_machine, d.m, _, d.dm, _, _, rfl, h0.same _ _ hT.mach, T.cl_Machine, T.no_Machine_stuck, maF_stuck, ?_⟩
    refine ⟨d.hand, d.l1, _, _, rfl, SqL.of (h0.at 3), SqL.of (h0.at 5), fun D hD => lc_zip_pure (f := usV) (SqL.of (h0.at 3)) (SqL.of (h0.at 5)) hD (.inl ?_) (fun _ _ => rfl) (fun x y hx hy H3 Q3 s3 q3 => ?_) fun H3 s3 hD3 => ?_⟩
    · unfold handL
      rw [List.length_map, List.length_map, List.length_range, szl]
      have := hT.ok.s.k8
      omega
    · obtain ⟨x', _, rfl⟩ := List.mem_map.mp hx
      obtain ⟨y', _, rfl⟩ := List.mem_map.mp hy
      refine ⟨_, rfl, _, rfl, ?_⟩
      have q3 : Q3 (if y' = true then .int 0 else .int x') H3 := q3
      cases y' with
      | true => exact iteT q3
      | false => exact iteF ⟨_, rfl, q3⟩
    · rw [usable_eq hT.ok] at hD3
      exact k H3 D s3 hD3
/-! can_be_bought -/
theorem dec_eq0 (z y : Int) : decide (V.int z = V.int y) = decide (z = y) := decide_eq_decide.mpr ⟨fun h => by injection h, fun h => by rw [h]⟩
def sp_can_be_bought (A : Ad) : Sp := fun vs H Q _ => ∃ (G : Hp) (d : TD) (B : SuA) (Tl : List Int) (s : Nat) (c : Addr), vs = [.ref d.p, vN s, .ref c] ∧ TuOk A G d B Tl ∧ Sep G H (tuC A d) ∧ s < d.a.set.slots ∧ RepAt H c (d.a.credit / 1000 + 1) (Kp122.canPay (Kp123.coins d.a)) ∧ Q (.bl (Kp123.canBuy d.a s)) H
theorem sc_can_be_bought : FnScope ["self", "slot", "change", "rest"] ["self", "slot", "change"] (defScope s_Turn_can_be_bought) := ⟨rfl, rfl, rfl, by decide +kernel, rfl, by decide +kernel, by decide +kernel⟩
theorem cI_at {l : List Nat} {k : Nat} (h : k < l.length) : ((cI l).map V.int)[k]? = some (vN (at_ l k)) := by
  unfold cI at_
  rw [List.getElem?_map, List.getElem?_map, List.getElem?_eq_getElem h, List.getD_eq_getElem?_getD, List.getElem?_eq_getElem h]
  rfl
theorem ok_can_be_bought (T : Txt K mg a) : FnOk P w K mg base CX0 2 a.f_Turn_can_be_bought a.d_Turn_can_be_bought ["self", "slot", "change"] (sp_can_be_bought a) := by
  refine T.F_Turn_can_be_bought.ok sc_can_be_bought (fun vs H Q E h => ?_) (fun cdv A outer s H vs Q E hr h => ?_)
  · obtain ⟨G, d, B, Tl, s, c, rfl, _⟩ := h
    rfl
  · obtain ⟨G, d, B, Tl, s, c, rfl, hT, h0, hs, hR, k⟩ := h
    have nd := sc_can_be_bought.nd
    refine ⟨_, pss_cons (ps_if (PW.pt (pw_or (pt_cmpR op_eq (pe_ix ix_list (pe_fld (pv 0) rfl) (pv 1) (fun _ _ => rfl)) pe_int (nomark _)) (pw_or1 (pt_truth (pe_ix ix_list (pe_fld (pe_fld (pv 0) rfl) rfl) (pv 1) (fun _ _ => rfl)) (fun _ => rfl))))) (pss_one (ps_ret pe_bl)) pss_nil)
      (pss_cons (ps_set (i := 3) nd rfl (Or.inl rfl) (pe_op op_sub (pe_fld (pv 0) rfl) (pe_ix ix_list (pe_fld (pe_fld (pe_fld (pv 0) rfl) rfl) rfl) (pv 1) (fun _ _ => rfl))))
      (pss_one (ps_ret (pe_and (pe_cmpR op_ge (pv 3) pe_int (nomark _)) (pe_one (pe_call (ok_holds T) hr rfl T.mg_holds T.F_holds.kp T.b_holds .nil pass0 (pa_cons (pv 2) (pa_cons (pv 3) pa_nil)))))))), ?_⟩
    have o := hT.ok
    have s8 := o.s.s8
    rw [canBuy_eq o hs] at k
    have hleft : ((leftL d.a).map V.int)[s]? = some (V.int (Kp123.left_ d.a.set d.a.w s)) := by
      unfold leftL
      rw [List.getElem?_map, get_rmap _ hs]; rfl
    have hfail : ((failedL d.a.set d.a.failed).map V.bl)[s]? = some (V.bl (d.a.failed.contains s)) := by
      unfold failedL
      rw [List.getElem?_map, get_rmap _ hs]; rfl
    have hprice := cI_at (l := d.a.set.price) (k := s) (by rw [hT.lens.price]; omega)
    refine ⟨_, rfl, d.p, _, d.dp, _, _, rfl, h0.at 2, T.cl_Turn, T.no_Turn_left, tuF_left, _, rfl, d.left, _, _, _, rfl, rfl, SqL.of (h0.at 4), atI_nat hleft, rfl, _, rfl, ?_⟩
    rw [dec_eq0]
    cases hl : decide (Kp123.left_ d.a.set d.a.w s = 0) with
    | true =>
      rw [hl] at k
      exact iteT (iteT k)
    | false =>
      refine iteF ⟨_, rfl, d.p, _, d.dp, _, _, rfl, h0.at 2, T.cl_Turn, T.no_Turn_machine, tuF_machine, d.m, _, d.dm, _, _, rfl, h0.same _ _ hT.mach, T.cl_Machine, T.no_Machine_failed, maF_failed, _, rfl, d.l2, _, _, _, rfl, rfl, SqL.of (h0.at 6), atI_nat hfail, _, rfl, ?_⟩
      cases hf : d.a.failed.contains s with
      | true =>
        rw [hl, hf] at k
        exact iteT k
      | false =>
        rw [hl, hf] at k
        refine iteF ?_
        refine ⟨_, rfl, d.p, _, d.dp, _, _, rfl, h0.at 2, T.cl_Turn, T.no_Turn_credit, tuF_credit, _, rfl, d.p, _, d.dp, _, _, rfl, h0.at 2, T.cl_Turn, T.no_Turn_machine, tuF_machine, d.m, _, d.dm, _, _, rfl, h0.same _ _ hT.mach, T.cl_Machine, T.no_Machine_setup, maF_setup,
          d.su, _, _, _, _, rfl, h0.same _ _ hT.set.ob, T.cl_Setup, T.no_Setup_price, suF_price, _, rfl, B.p, _, _, _, rfl, rfl, SqL.of (h0.same _ _ hT.set.p), atI_nat hprice, _, _, rfl, rfl, ?_⟩
        refine ⟨_, rfl, _, _, rfl, rfl, _, rfl, ?_⟩
        have hcr := credit_nat o
        cases hc : decide (0 ≤ Kp123.credit d.a.set d.a.w - (at_ d.a.set.price s : Nat)) with
        | false =>
          rw [hc] at k
          exact iteF k
        | true =>
          rw [hc] at k
          have hle := of_decide_eq_true hc
          have e : Kp123.credit d.a.set d.a.w - (at_ d.a.set.price s : Nat) = ((d.a.credit - at_ d.a.set.price s : Nat) : Int) := by omega
          refine iteT ⟨_, rfl, _, rfl, c, d.a.credit - at_ d.a.set.price s, _, _, ?_, hR, by omega, k⟩
          show [V.ref c, V.int (Kp123.credit d.a.set d.a.w - (at_ d.a.set.price s : Nat))] = _
          rw [e]
          rfl
end
end Hs
end
section
set_option Elab.async false
set_option linter.all false
set_option maxRecDepth 100000
set_option maxHeartbeats 4000000
namespace Hs
open PySem PySem.Spec PyProof.Rows L2
open Kp123 (Setup Abs at_)
section
variable {P : Program} {w : World} {K : PySem.W.Frag} {mg : Str → Option Value} {base : Heap} {a : Ad}
/-! for_sale -/
def sp_for_sale (A : Ad) : Sp := fun vs H Q _ => ∃ (G : Hp) (d : TD) (B : SuA) (Tl : List Int), vs = [.ref d.p] ∧ TuOk A G d B Tl ∧ Sep G H (tuC A d) ∧ ∀ (H' : Hp) (r : Addr), Same H H' → H' r = some (.lst (((List.range d.a.set.slots).map (Kp123.canBuy d.a)).map V.bl)) → Q (.ref r) H'
theorem sc_for_sale : FnScope ["self", "change", "slot"] ["self"] (defScope s_Turn_for_sale) := ⟨rfl, rfl, rfl, by decide +kernel, rfl, by decide +kernel, by decide +kernel⟩
theorem ok_for_sale (T : Txt K mg a) : FnOk P w K mg base CX0 5 a.f_Turn_for_sale a.d_Turn_for_sale ["self"] (sp_for_sale a) := by
  refine T.F_Turn_for_sale.ok sc_for_sale (fun vs H Q E h => ?_) (fun cdv A outer s H vs Q E hr h => ?_)
  · obtain ⟨G, d, B, Tl, rfl, _⟩ := h
    rfl
  · obtain ⟨G, d, B, Tl, rfl, hT, h0, k⟩ := h
    have nd := sc_for_sale.nd
    have hr1 : Room 1 _ := hr.mono (by decide)
    have hr2 : Room 2 _ := hr.mono (by decide)
    refine ⟨_, pss_cons (ps_set (i := 1) nd rfl (Or.inr rfl) (pe_call (ok_payable T) hr rfl T.mg_payable T.F_payable.kp T.b_payable .nil pass0 (pa_cons (pe_fld (pv 0) rfl) (pa_cons (pe_meth0 (pv 0) T.cl_Turn T.me_Turn_usable (ok_usable T) hr1 T.b_Turn_usable .nil pass0) (pa_cons (pe_fld (pv 0) rfl) pa_nil)))))
      (pss_one (ps_ret (pe_lc (own := [("slot", 2)]) rfl nd (pi_range1 (by rfl) T.n_range (pa_cons (pe_fld (pe_fld (pe_fld (pv 0) rfl) rfl) rfl) pa_nil)) (blkOk_by (by kernel_rfl)) (fun _ _ _ _ _ => pg_name (i := 2) nd rfl (Or.inl rfl) (Or.inr rfl)) (fun _ _ _ _ _ => pts_nil)
        (fun _ _ _ _ _ => pe_meth (pv 0) T.cl_Turn T.me_Turn_can_be_bought (ok_can_be_bought T) hr2 T.b_Turn_can_be_bought .nil pass0 (pa_cons (pv 2) (pa_cons (pv 1) pa_nil)))))), ?_⟩
    have o := hT.ok
    have s8 := o.s.s8
    have hs := szl
    refine ⟨_, rfl, d.p, _, d.dp, _, _, rfl, h0.at 2, T.cl_Turn, T.no_Turn_value, tuF_value, _, rfl, d.p, d.dp, _, rfl, h0.at 2, tuM_usable, G, d, B, Tl, rfl, hT, h0, fun H1 u s1 hu => ?_⟩
    have h1 := h0.ext s1
    refine ⟨_, rfl, d.p, _, d.dp, _, _, rfl, h1.at 2, T.cl_Turn, T.no_Turn_credit, tuF_credit, d.val, u, Kp123.coins d.a, d.a.credit, ?_, coinsAt (A := a) o (h1.same _ _ hT.val) hu, credit_le o, fun H2 c s2 hc => ?_⟩
    · show [V.ref d.val, V.ref u, V.int (Kp123.credit d.a.set d.a.w)] = _
      rw [← credit_nat o]
      rfl
    have h2 := h1.ext s2
    refine ⟨_, rfl, d.p, _, d.dp, _, _, rfl, h2.at 2, T.cl_Turn, T.no_Turn_machine, tuF_machine, d.m, _, d.dm, _, _, rfl, h2.same _ _ hT.mach, T.cl_Machine, T.no_Machine_setup, maF_setup, d.su, _, _, _, _, rfl, h2.same _ _ hT.set.ob, T.cl_Setup, T.no_Setup_slots, suF_slots, _, rfl, by omega, by omega, fun D hD => ?_⟩
    rw [Int.toNat_natCast]
    refine lc_range (fun i H' => Same H2 H' ∧ H' D = some (.lst (((List.range i).map (Kp123.canBuy d.a)).map V.bl))) ⟨same_new hD, upd_same⟩ ?_ ?_
    · rintro i H' hi ⟨s3, hD3⟩
      have h3 := h2.ext s3
      refine ⟨rfl, ?_⟩
      refine ⟨_, rfl, d.p, d.dp, _, rfl, h3.at 2, tuM_can_be_bought, _, rfl, _, rfl, G, d, B, Tl, i, c, ?_, hT, h3, hi, hc.same s3, _, hD3, ?_, fun b ob e => ?_, ?_⟩
      · show [V.ref d.p, V.int (0 + (i : Int)), V.ref c] = _
        rw [Int.zero_add]
        rfl
      · rw [List.length_map, List.length_map, List.length_range]; omega
      · rw [upd_ne (ne_of_none e hD)]; exact s3 b ob e
      · rw [upd_same, List.range_succ, List.map_append, List.map_append]
        rfl
    · rintro H' ⟨s3, hD3⟩
      exact k H' D ((s1.trans s2).trans s3) hD3
/-! drop, pay_coin -/
def TD.ask (d : TD) (x : List Int) (a' : Abs) : TD := { d with heard := d.heard + 1, asks := d.asks ++ [x], a := a' }
theorem ask_len (l : List (List Int)) (x : List Int) : (l ++ [x]).length = l.length + 1 := by simp
theorem ask_flat (l : List (List Int)) (x : List Int) : (l ++ [x]).flatMap id = l.flatMap id ++ x := by simp
theorem TuOk.ask {A : Ad} {G : Hp} {d : TD} {B : SuA} {Tl : List Int} (h : TuOk A G d B Tl) {x : List Int} {a' : Abs} (hs : a'.set = d.a.set) (ho : AOk a') (hx : x.length = 2) (hh : d.heard < Tl.length) : TuOk A G (d.ask x a') B Tl := by
  refine ⟨h.told, h.mach, ?_, ?_, ho, ?_, ?_⟩
  · show SetupAt A.cSetup G d.su a'.set B
    rw [hs]; exact h.set
  · show G d.val = some (.lst (valV a'.set))
    rw [hs]; exact h.val
  · show Lens a'.set
    rw [hs]; exact h.lens
  · show ((d.asks ++ [x]).flatMap id).length + 2 * (Tl.length - (d.heard + 1)) ≤ 900000
    have := h.sz
    rw [ask_flat, List.length_append, hx]
    omega
def sp_Tdrop (A : Ad) : Sp := fun vs H Q _ => ∃ (G : Hp) (d : TD) (B : SuA) (Tl : List Int) (s : Nat) (z : Int), vs = [.ref d.p, vN s] ∧ TuOk A G d B Tl ∧ Sep G H (tuC A d) ∧ Tl[d.heard]? = some z ∧ Kp123.canBuy d.a s = true ∧
  ∀ H' : Hp, Sep G H' (tuC A (d.ask [6, (s : Int)] (d.a.ev (.drop s (z == 1))))) → Q (.bl (z == 1)) H'
theorem sc_Tdrop : FnScope ["self", "slot"] ["self", "slot"] (defScope s_Turn_drop) := ⟨rfl, rfl, rfl, by decide +kernel, rfl, by decide +kernel, by decide +kernel⟩
theorem ok_Tdrop (T : Txt K mg a) : FnOk P w K mg base CX0 4 a.f_Turn_drop a.d_Turn_drop ["self", "slot"] (sp_Tdrop a) := by
  refine T.F_Turn_drop.ok sc_Tdrop (fun vs H Q E h => ?_) (fun cdv A outer s H vs Q E hr h => ?_)
  · obtain ⟨G, d, B, Tl, s, z, rfl, _⟩ := h
    rfl
  · obtain ⟨G, d, B, Tl, s, z, rfl, hT, h0, hz, hb, k⟩ := h
    refine ⟨_, pss_cons (ps_if (pt_not (pt_truth (pe_meth (pe_fld (pv 0) rfl) T.cl_Around T.me_Around_drop (ok_drop T) hr T.b_Around_drop .nil pass0 (pa_cons (pv 1) pa_nil)) (fun _ => rfl)))
        (pss_cons (ps_asg pe_bl (pg_sub (pe_fld (pe_fld (pv 0) rfl) rfl) (pv 1) set_list)) (pss_one (ps_ret pe_bl))) pss_nil)
      (pss_cons (ps_augS (pe_fld (pv 0) rfl) (pv 1) get_list pe_int ip_sub set_list)
      (pss_cons (ps_fldaug (pv 0) (pe_ix ix_list (pe_fld (pe_fld (pe_fld (pv 0) rfl) rfl) rfl) (pv 1) (fun _ _ => rfl)) in_sub)
      (pss_one (ps_ret pe_bl)))), ?_⟩
    have o := hT.ok
    obtain ⟨hs, hl, hp⟩ := canBuy_facts hb
    have s8 := o.s.s8
    have hsz := hT.sz
    have hleft : ((leftL d.a).map V.int)[s]? = some (V.int (Kp123.left_ d.a.set d.a.w s)) := by
      unfold leftL
      rw [List.getElem?_map, get_rmap _ hs]; rfl
    have hll : ((leftL d.a).map V.int).length = d.a.set.slots := by unfold leftL; rw [List.length_map, List.length_map, List.length_range]
    have hfl : ((failedL d.a.set d.a.failed).map V.bl).length = d.a.set.slots := by unfold failedL; rw [List.length_map, List.length_map, List.length_range]
    have hprice := cI_at (l := d.a.set.price) (k := s) (by rw [hT.lens.price]; omega)
    refine ⟨_, rfl, d.p, _, d.dp, _, _, rfl, h0.at 2, T.cl_Turn, T.no_Turn_around, tuF_around, d.r, d.dr, _, rfl, h0.at 0, arM_drop, _, rfl, addC G (tuR a d), d.r, d.dr, d.told, d.q, d.heard, d.asks.length, _, Tl, (s : Int), z, rfl, h0.lend _, addC_of h0 hT.told, hz, by omega, fun H1 h1 => ⟨_, rfl, ?_⟩⟩
    have h2 := h0.back h1
    cases hz1 : (z == 1) with
    | false =>
      rw [hz1] at k
      refine iteT ?_
      refine ⟨_, rfl, d.p, _, d.dp, _, _, rfl, h2.at 2, T.cl_Turn, T.no_Turn_machine, tuF_machine, d.m, _, d.dm, _, _, rfl, h2.same _ _ hT.mach, T.cl_Machine, T.no_Machine_failed, maF_failed, _, rfl, d.l2, _, _, s, rfl, rfl, h2.at 6, ixN_nat (by rw [hfl]; exact hs), ?_⟩
      have h3 := h2.set 6 (.lst (((failedL d.a.set d.a.failed).map V.bl).set s (V.bl true)))
      refine k _ ?_
      show Sep G _ (arC a.cAround d.r d.dr d.told d.q (d.heard + 1) (d.asks ++ [[6, (s : Int)]]).length ((d.asks ++ [[6, (s : Int)]]).flatMap id) ++
        [(d.p, tuO a.cTurn d.dp d.m d.r d.val d.hand d.left (Kp123.credit d.a.set d.a.w)), (d.hand, .lst ((handL d.a).map V.int)), (d.left, .lst ((leftL d.a).map V.int)), (d.l1, .lst ((stuckL d.a.set d.a.stuck).map V.bl)), (d.l2, .lst ((failedL d.a.set (Kp123.put d.a.failed s)).map V.bl))])
      rw [ask_len, ask_flat, failedL_put _ _ hs, List.map_set]
      exact h3
    | true =>
      rw [hz1] at k
      refine iteF ?_
      refine ⟨_, rfl, d.p, _, d.dp, _, _, rfl, h2.at 2, T.cl_Turn, T.no_Turn_left, tuF_left, _, rfl, d.left, _, _, s, rfl, rfl, SqL.of (h2.at 4), hleft, _, _, rfl, rfl, d.left, _, _, s, rfl, rfl, h2.at 4, ixN_nat (by rw [hll]; exact hs), ?_⟩
      have h3 := h2.set 4 (.lst (((leftL d.a).map V.int).set s (V.int (Kp123.left_ d.a.set d.a.w s - 1))))
      refine ⟨_, rfl, d.p, _, d.dp, _, _, rfl, h3.at 2, T.cl_Turn, T.no_Turn_credit, tuF_credit, _, rfl, d.p, _, d.dp, _, _, rfl, h3.at 2, T.cl_Turn, T.no_Turn_machine, tuF_machine, d.m, _, d.dm, _, _, rfl, h3.same _ _ hT.mach, T.cl_Machine, T.no_Machine_setup, maF_setup,
        d.su, _, _, _, _, rfl, h3.same _ _ hT.set.ob, T.cl_Setup, T.no_Setup_price, suF_price, _, rfl, B.p, _, _, _, rfl, rfl, SqL.of (h3.same _ _ hT.set.p), atI_nat hprice, _, _, rfl, rfl, d.dp, _, h3.at 2, tuL, ?_⟩
      rw [tuP_credit]
      have h4 := h3.set 2 (tuO a.cTurn d.dp d.m d.r d.val d.hand d.left (Kp123.credit d.a.set d.a.w - (at_ d.a.set.price s : Nat)))
      refine k _ ?_
      show Sep G _ (arC a.cAround d.r d.dr d.told d.q (d.heard + 1) (d.asks ++ [[6, (s : Int)]]).length ((d.asks ++ [[6, (s : Int)]]).flatMap id) ++
        [(d.p, tuO a.cTurn d.dp d.m d.r d.val d.hand d.left (Kp123.credit d.a.set (d.a.ev (.drop s true)).w)), (d.hand, .lst ((handL d.a).map V.int)), (d.left, .lst ((leftL (d.a.ev (.drop s true))).map V.int)), (d.l1, .lst ((stuckL d.a.set d.a.stuck).map V.bl)), (d.l2, .lst ((failedL d.a.set d.a.failed).map V.bl))])
      rw [ask_len, ask_flat, credit_drop o hs, leftL_drop o hs, List.map_set]
      exact h4
def sp_pay_coin (A : Ad) : Sp := fun vs H Q _ => ∃ (G : Hp) (d : TD) (B : SuA) (Tl : List Int) (c : Nat) (z : Int), vs = [.ref d.p, vN c] ∧ TuOk A G d B Tl ∧ Sep G H (tuC A d) ∧ Tl[d.heard]? = some z ∧ c < d.a.set.kinds ∧
  ∀ H' : Hp, Sep G H' (tuC A (d.ask [5, (c : Int)] (d.a.ev (.pay c (z == 1))))) → Q (.bl (z == 1)) H'
theorem sc_pay_coin : FnScope ["self", "kind"] ["self", "kind"] (defScope s_Turn_pay_coin) := ⟨rfl, rfl, rfl, by decide +kernel, rfl, by decide +kernel, by decide +kernel⟩
theorem ok_pay_coin (T : Txt K mg a) : FnOk P w K mg base CX0 4 a.f_Turn_pay_coin a.d_Turn_pay_coin ["self", "kind"] (sp_pay_coin a) := by
  refine T.F_Turn_pay_coin.ok sc_pay_coin (fun vs H Q E h => ?_) (fun cdv A outer s H vs Q E hr h => ?_)
  · obtain ⟨G, d, B, Tl, c, z, rfl, _⟩ := h
    rfl
  · obtain ⟨G, d, B, Tl, c, z, rfl, hT, h0, hz, hc, k⟩ := h
    refine ⟨_, pss_cons (ps_if (pt_not (pt_truth (pe_meth (pe_fld (pv 0) rfl) T.cl_Around T.me_Around_pay (ok_pay T) hr T.b_Around_pay .nil pass0 (pa_cons (pv 1) pa_nil)) (fun _ => rfl)))
        (pss_cons (ps_asg pe_bl (pg_sub (pe_fld (pe_fld (pv 0) rfl) rfl) (pv 1) set_list)) (pss_one (ps_ret pe_bl))) pss_nil)
      (pss_cons (ps_augS (pe_fld (pv 0) rfl) (pv 1) get_list pe_int ip_sub set_list)
      (pss_cons (ps_fldaug (pv 0) (pe_ix ix_list (pe_fld (pv 0) rfl) (pv 1) (fun _ _ => rfl)) in_sub)
      (pss_one (ps_ret pe_bl)))), ?_⟩
    have o := hT.ok
    have k8 := o.s.k8
    have hsz := hT.sz
    have hhand : ((handL d.a).map V.int)[c]? = some (V.int (Kp123.atHand d.a.set d.a.w c)) := by
      unfold handL
      rw [List.getElem?_map, get_rmap _ hc]; rfl
    have hll : ((handL d.a).map V.int).length = d.a.set.kinds := by unfold handL; rw [List.length_map, List.length_map, List.length_range]
    have hfl : ((stuckL d.a.set d.a.stuck).map V.bl).length = d.a.set.kinds := by unfold stuckL; rw [List.length_map, List.length_map, List.length_range]
    have hval : (valV d.a.set)[c]? = some (vN (at_ d.a.set.value c)) := get_rmap _ hc
    refine ⟨_, rfl, d.p, _, d.dp, _, _, rfl, h0.at 2, T.cl_Turn, T.no_Turn_around, tuF_around, d.r, d.dr, _, rfl, h0.at 0, arM_pay, _, rfl, addC G (tuR a d), d.r, d.dr, d.told, d.q, d.heard, d.asks.length, _, Tl, (c : Int), z, rfl, h0.lend _, addC_of h0 hT.told, hz, by omega, fun H1 h1 => ⟨_, rfl, ?_⟩⟩
    have h2 := h0.back h1
    cases hz1 : (z == 1) with
    | false =>
      rw [hz1] at k
      refine iteT ?_
      refine ⟨_, rfl, d.p, _, d.dp, _, _, rfl, h2.at 2, T.cl_Turn, T.no_Turn_machine, tuF_machine, d.m, _, d.dm, _, _, rfl, h2.same _ _ hT.mach, T.cl_Machine, T.no_Machine_stuck, maF_stuck, _, rfl, d.l1, _, _, c, rfl, rfl, h2.at 5, ixN_nat (by rw [hfl]; exact hc), ?_⟩
      have h3 := h2.set 5 (.lst (((stuckL d.a.set d.a.stuck).map V.bl).set c (V.bl true)))
      refine k _ ?_
      show Sep G _ (arC a.cAround d.r d.dr d.told d.q (d.heard + 1) (d.asks ++ [[5, (c : Int)]]).length ((d.asks ++ [[5, (c : Int)]]).flatMap id) ++
        [(d.p, tuO a.cTurn d.dp d.m d.r d.val d.hand d.left (Kp123.credit d.a.set d.a.w)), (d.hand, .lst ((handL d.a).map V.int)), (d.left, .lst ((leftL d.a).map V.int)), (d.l1, .lst ((stuckL d.a.set (Kp123.put d.a.stuck c)).map V.bl)), (d.l2, .lst ((failedL d.a.set d.a.failed).map V.bl))])
      rw [ask_len, ask_flat, stuckL_put _ _ hc, List.map_set]
      exact h3
    | true =>
      rw [hz1] at k
      refine iteF ?_
      refine ⟨_, rfl, d.p, _, d.dp, _, _, rfl, h2.at 2, T.cl_Turn, T.no_Turn_at_hand, tuF_at_hand, _, rfl, d.hand, _, _, c, rfl, rfl, SqL.of (h2.at 3), hhand, _, _, rfl, rfl, d.hand, _, _, c, rfl, rfl, h2.at 3, ixN_nat (by rw [hll]; exact hc), ?_⟩
      have h3 := h2.set 3 (.lst (((handL d.a).map V.int).set c (V.int (Kp123.atHand d.a.set d.a.w c - 1))))
      refine ⟨_, rfl, d.p, _, d.dp, _, _, rfl, h3.at 2, T.cl_Turn, T.no_Turn_credit, tuF_credit, _, rfl, d.p, _, d.dp, _, _, rfl, h3.at 2, T.cl_Turn, T.no_Turn_value, tuF_value, _, rfl, d.val, _, _, _, rfl, rfl, SqL.of (h3.same _ _ hT.val), atI_nat hval, _, _, rfl, rfl, d.dp, _, h3.at 2, tuL, ?_⟩
      rw [tuP_credit]
      have h4 := h3.set 2 (tuO a.cTurn d.dp d.m d.r d.val d.hand d.left (Kp123.credit d.a.set d.a.w - (at_ d.a.set.value c : Nat)))
      refine k _ ?_
      show Sep G _ (arC a.cAround d.r d.dr d.told d.q (d.heard + 1) (d.asks ++ [[5, (c : Int)]]).length ((d.asks ++ [[5, (c : Int)]]).flatMap id) ++
        [(d.p, tuO a.cTurn d.dp d.m d.r d.val d.hand d.left (Kp123.credit d.a.set (d.a.ev (.pay c true)).w)), (d.hand, .lst ((handL (d.a.ev (.pay c true))).map V.int)), (d.left, .lst ((leftL d.a).map V.int)), (d.l1, .lst ((stuckL d.a.set d.a.stuck).map V.bl)), (d.l2, .lst ((failedL d.a.set d.a.failed).map V.bl))])
      rw [ask_len, ask_flat, credit_pay o hc, handL_pay o hc, List.map_set]
      exact h4
end
end Hs
end
section
set_option Elab.async false
set_option linter.all false
set_option maxRecDepth 100000
set_option maxHeartbeats 4000000
namespace Hs
open PySem PySem.Spec PyProof.Rows L2
open Kp123 (Setup Abs at_)
section
variable {P : Program} {w : World} {K : PySem.W.Frag} {mg : Str → Option Value} {base : Heap} {a : Ad}
def TD.go (d : TD) (h : Nat) (as : List (List Int)) (a' : Abs) : TD := { d with heard := h, asks := as, a := a' }
/-- where paying back stands: heard, asked, the state, what is still asked -/
structure Way (A : Ad) (G : Hp) (d : TD) (B : SuA) (Tl : List Int) (af : Abs) (total : List (List Int)) (tf : List Int) (h : Nat) (as : List (List Int)) (a1 : Abs) (more : List (List Int)) : Prop where
  ok : TuOk A G (d.go h as a1) B Tl
  goes : Goes a1 (Tl.drop h) af more tf
  all : as ++ more = total
theorem goes_step {a1 af : Abs} {t tf : List Int} {more : List (List Int)} {c : Nat} (g : Goes a1 t af more tf) (hg : Kp123.greatest a1 ≠ 0) (hf : (List.range a1.set.kinds).find? (Kp123.mayPay a1) = some c) :
    ∃ z r more', t = z :: r ∧ more = [5, (c : Int)] :: more' ∧ Goes (a1.ev (.pay c (z == 1))) r af more' tf := by
  cases g with
  | done h => exact absurd h hg
  | step h1 h2 h3 =>
    rw [hf] at h2
    cases h2
    exact ⟨_, _, _, rfl, rfl, h3⟩
theorem goes_done {a1 af : Abs} {t tf : List Int} {more : List (List Int)} (g : Goes a1 t af more tf) (hg : Kp123.greatest a1 = 0) : af = a1 ∧ more = [] ∧ tf = t := by
  cases g with
  | done h => exact ⟨rfl, rfl, rfl⟩
  | step h1 h2 h3 => exact absurd hg h1
theorem Way.step {A : Ad} {G : Hp} {d : TD} {B : SuA} {Tl : List Int} {af : Abs} {total : List (List Int)} {tf : List Int} {h : Nat} {as : List (List Int)} {a1 : Abs} {more : List (List Int)} {c i : Nat} {rest : List Nat}
    (W : Way A G d B Tl af total tf h as a1 more) (hp : planA a1 = zeros c ++ (i + 1) :: rest) :
    ∃ z more', Tl[h]? = some z ∧ c < a1.set.kinds ∧ Way A G d B Tl af total tf (h + 1) (as ++ [[5, (c : Int)]]) (a1.ev (.pay c (z == 1))) more' ∧ mu (a1.ev (.pay c (z == 1))) < mu a1 ∧ ((z == 1) = true → planA (a1.ev (.pay c (z == 1))) = zeros c ++ i :: rest) := by
  have o : AOk a1 := W.ok.ok
  obtain ⟨h1, h2, h3, h4, h5, h6, h7⟩ := plan_asks o hp
  obtain ⟨z, r, more', e1, e2, g⟩ := goes_step W.goes h5 h6
  obtain ⟨e3, e4⟩ := drop_get e1
  have hm := find_may h6
  have hl : h < Tl.length := (List.getElem?_eq_some_iff.mp e3).1
  refine ⟨z, more', e3, h1, ⟨?_, by rw [e4]; exact g, ?_⟩, mu_pay _ o hm, fun hz => by rw [hz]; exact h7⟩
  · exact TuOk.ask (d := d.go h as a1) W.ok (x := [5, (c : Int)]) (a' := a1.ev (.pay c (z == 1))) rfl (aok_ev _ o hm) rfl hl
  · rw [← W.all, e2, List.append_assoc]
    rfl
def sp_pay_coins (A : Ad) : Sp := fun vs H Q _ => ∃ (G : Hp) (d : TD) (B : SuA) (Tl : List Int) (af : Abs) (total : List (List Int)) (tf : List Int) (h : Nat) (as : List (List Int)) (a1 : Abs) (more : List (List Int)) (y : Addr), vs = [.ref d.p, .ref y] ∧ Way A G d B Tl af total tf h as a1 more ∧ Sep G H (tuC A (d.go h as a1)) ∧ G y = some (.lst ((planA a1).map vN)) ∧
  ∀ (H' : Hp) (b : Bool) (h' : Nat) (as' : List (List Int)) (a' : Abs) (more' : List (List Int)), Sep G H' (tuC A (d.go h' as' a')) → Way A G d B Tl af total tf h' as' a' more' → (b = true → Kp123.greatest a' = 0) → (b = false → mu a' < mu a1) → Q (.bl b) H'
theorem sc_pay_coins : FnScope ["self", "payment", "kind", "count", "coin"] ["self", "payment"] (defScope s_Turn_pay_coins) := ⟨rfl, rfl, rfl, by decide +kernel, rfl, by decide +kernel, by decide +kernel⟩
theorem ok_pay_coins (T : Txt K mg a) : FnOk P w K mg base CX0 5 a.f_Turn_pay_coins a.d_Turn_pay_coins ["self", "payment"] (sp_pay_coins a) := by
  refine T.F_Turn_pay_coins.ok sc_pay_coins (fun vs H Q E h => ?_) (fun cdv A outer s H vs Q E hr h => ?_)
  · obtain ⟨G, d, B, Tl, af, total, tf, h, as, a1, more, y, rfl, _⟩ := h
    rfl
  · obtain ⟨G, d, B, Tl, af, total, tf, h, as, a1, more, y, rfl, W0, h0, hy, k⟩ := h
    have nd := sc_pay_coins.nd
    refine ⟨_, pss_cons (ps_for PassesOwn.never rfl (pi_enum (by rfl) T.n_enumerate (pa_cons (pv 1) pa_nil)) (pg_tup rfl (pgs_cons (pg_name (i := 2) nd rfl (Or.inl rfl)) (pgs_cons (pg_name (i := 3) nd rfl (Or.inl rfl)) pgs_nil)))
        (pss_one (ps_for PassesOwn.never rfl (pi_range1 (by rfl) T.n_range (pa_cons (pv 3) pa_nil)) (pg_name (i := 4) nd rfl (Or.inl rfl))
          (pss_one (ps_if (pt_not (pt_truth (pe_meth (pv 0) T.cl_Turn T.me_Turn_pay_coin (ok_pay_coin T) hr T.b_Turn_pay_coin .nil pass0 (pa_cons (pv 2) pa_nil)) (fun _ => rfl))) (pss_one (ps_ret pe_bl)) pss_nil)))))
      (pss_one (ps_ret pe_bl)), ?_⟩
    have o : AOk a1 := W0.ok.ok
    have hplen : (planA a1).length = a1.set.kinds := planA_len
    refine ⟨_, rfl, y, _, rfl, SqL.of (h0.same _ _ hy), for_enum (K := K) (a := y) (xs := (planA a1).map vN) (fun i σ H' => ∃ (v2 v3 v4 : Option V) (h' : Nat) (as' : List (List Int)) (a' : Abs) (more' : List (List Int)), σ = [some (.ref d.p), some (.ref y), v2, v3, v4] ∧ Sep G H' (tuC a (d.go h' as' a')) ∧ Way a G d B Tl af total tf h' as' a' more' ∧ a'.set = a1.set ∧ mu a' ≤ mu a1 ∧ planA a' = zeros i ++ (planA a1).drop i)
      ⟨_, _, _, h, as, a1, more, rfl, h0, W0, rfl, Nat.le_refl _, rfl⟩ (fun i σ H' _ hh => by
        obtain ⟨_, _, _, _, _, _, _, _, hs, _⟩ := hh
        exact SqL.of (hs.same _ _ hy)) ?_ ?_⟩
    · rintro i x σ H' Tu hx ⟨v2, v3, v4, h1, as1, b1, more1, rfl, hs1, W1, hset, hmu, hpl⟩ hTu
      obtain ⟨c, hc, rfl⟩ : ∃ c, (planA a1)[i]? = some c ∧ x = vN c := by
        rw [List.getElem?_map] at hx
        cases e : (planA a1)[i]? with
        | none => rw [e] at hx; cases hx
        | some c => rw [e] at hx; exact ⟨c, rfl, (Option.some.inj hx).symm⟩
      have hi : i < (planA a1).length := (List.getElem?_eq_some_iff.mp hc).1
      have hdrop : (planA a1).drop i = c :: (planA a1).drop (i + 1) := by
        rw [List.drop_eq_getElem_cons hi]
        congr 1
        rw [List.getElem?_eq_getElem hi] at hc
        exact Option.some.inj hc
      have hc4 : c ≤ 20000 := by
        obtain ⟨v, m, e1, e2⟩ := plan_le (coins_pos o) hc
        have hk : i < a1.set.kinds := by rw [← hplen]; exact hi
        rw [coins_get hk] at e1
        have := (Prod.mk.inj (Option.some.inj e1)).2
        have h4 := o.h1 i hk
        have : m ≤ 400 := by
          rw [← this]
          split <;> omega
        omega
      refine ⟨Tu, _, rfl, SqT.of upd_same, rfl, _, _, rfl, _, _, rfl, rfl, ?_⟩
      refine ⟨_, rfl, _, rfl, by omega, by omega, ?_⟩
      rw [Int.toNat_natCast]
      refine for_range (fun j σ H' => ∃ (v4 : Option V) (h' : Nat) (as' : List (List Int)) (a' : Abs) (more' : List (List Int)), σ = [some (.ref d.p), some (.ref y), some (vN i), some (vN c), v4] ∧ Sep G H' (tuC a (d.go h' as' a')) ∧ Way a G d B Tl af total tf h' as' a' more' ∧ a'.set = a1.set ∧ mu a' ≤ mu a1 ∧ j ≤ c ∧ planA a' = zeros i ++ (c - j) :: (planA a1).drop (i + 1))
        ⟨v4, h1, as1, b1, more1, rfl, hs1.ext (same_new hTu), W1, hset, hmu, Nat.zero_le _, by rw [hpl, hdrop]; rfl⟩ ?_ ?_
      · rintro j σ H2 hj ⟨v4, h2, as2, b2, more2, rfl, hs2, W2, hset2, hmu2, _, hpl2⟩
        rw [show c - j = (c - (j + 1)) + 1 by omega] at hpl2
        obtain ⟨z, more3, hz, hk, W3, hmu3, hpl3⟩ := W2.step hpl2
        refine ⟨_, rfl, d.p, d.dp, _, rfl, hs2.at 2, tuM_pay_coin, _, rfl, G, d.go h2 as2 b2, B, Tl, i, z, rfl, W2.ok, hs2, hz, hk, fun H3 hs3 => ⟨_, rfl, ?_⟩⟩
        cases hz1 : (z == 1) with
        | false =>
          rw [hz1] at hs3 W3 hmu3
          exact iteT (k H3 false _ _ _ _ hs3 W3 (fun q => by cases q) fun _ => Nat.lt_of_lt_of_le hmu3 hmu2)
        | true =>
          rw [hz1] at hs3 W3 hmu3 hpl3
          refine iteF ?_
          exact ⟨_, _, _, _, _, rfl, hs3, W3, hset2, Nat.le_trans (Nat.le_of_lt hmu3) hmu2, hj, hpl3 rfl⟩
      · rintro σ H2 ⟨v4, h2, as2, b2, more2, rfl, hs2, W2, hset2, hmu2, _, hpl2⟩
        refine ⟨_, _, _, h2, as2, b2, more2, rfl, hs2, W2, hset2, hmu2, ?_⟩
        rw [hpl2, Nat.sub_self]
        show zeros i ++ 0 :: _ = zeros (i + 1) ++ _
        unfold zeros
        rw [List.replicate_succ', List.append_assoc]
        rfl
    · rintro σ H' ⟨v2, v3, v4, h1, as1, b1, more1, rfl, hs1, W1, hset, hmu, hpl⟩
      refine k H' true h1 as1 b1 more1 hs1 W1 (fun _ => ?_) (fun q => by cases q)
      rw [List.length_map, List.drop_length, List.append_nil, hplen, ← hset] at hpl
      exact plan_zero W1.ok.ok hpl
/-! pay_back -/
def sp_pay_back (A : Ad) : Sp := fun vs H Q _ => ∃ (G : Hp) (d : TD) (B : SuA) (Tl : List Int) (af : Abs) (more : List (List Int)) (tf : List Int), vs = [.ref d.p] ∧ TuOk A G d B Tl ∧ Sep G H (tuC A d) ∧ Goes d.a (Tl.drop d.heard) af more tf ∧
  ∀ (H' : Hp) (h' : Nat), Sep G H' (tuC A (d.go h' (d.asks ++ more) af)) → TuOk A G (d.go h' (d.asks ++ more) af) B Tl → Tl.drop h' = tf → Q .non H'
theorem sc_pay_back : FnScope ["self", "settled"] ["self"] (defScope s_Turn_pay_back) := ⟨rfl, rfl, rfl, by decide +kernel, rfl, by decide +kernel, by decide +kernel⟩
theorem planA_eq (a1 : Abs) : plan (Kp123.coins a1) (most (Kp122.canPay (Kp123.coins a1)) a1.credit) = planA a1 := by
  unfold planA
  rw [great_most]
theorem addC_own {G H : Hp} {cs ds : Cells} (h : Sep G H (cs ++ ds)) (i : Nat) {b : Addr} {o : HO} (hi : ds[i]? = some (b, o) := by rfl) : addC G ds b = some o := by
  have nd : (cs.map (·.1) ++ ds.map (·.1)).Nodup := by rw [← List.map_append]; exact h.nd
  exact addC_in (List.nodup_append.mp nd).2.1 (List.mem_of_getElem? hi)
theorem TuOk.more {A : Ad} {G G' : Hp} {d : TD} {B : SuA} {Tl : List Int} (h : TuOk A G d B Tl) (s : Same G G') : TuOk A G' d B Tl :=
  ⟨s _ _ h.told, s _ _ h.mach, h.set.same s, s _ _ h.val, h.ok, h.lens, h.sz⟩
theorem TuOk.goes {A : Ad} {G G' : Hp} {d : TD} {B : SuA} {Tl : List Int} {h : Nat} {as : List (List Int)} {a1 : Abs} (h1 : TuOk A G d B Tl) (h2 : TuOk A G' (d.go h as a1) B Tl) (hs : a1.set = d.a.set) : TuOk A G (d.go h as a1) B Tl := by
  refine ⟨h1.told, h1.mach, ?_, ?_, h2.ok, h2.lens, h2.sz⟩
  · show SetupAt A.cSetup G d.su a1.set B
    rw [hs]; exact h1.set
  · show G d.val = some (.lst (valV a1.set))
    rw [hs]; exact h1.val
theorem goes_set {a1 af : Abs} {t tf : List Int} {more : List (List Int)} (g : Goes a1 t af more tf) : af.set = a1.set := by
  induction g with
  | done => rfl
  | step _ _ _ ih => exact ih
theorem ok_pay_back (T : Txt K mg a) : FnOk P w K mg base CX0 6 a.f_Turn_pay_back a.d_Turn_pay_back ["self"] (sp_pay_back a) := by
  refine T.F_Turn_pay_back.ok sc_pay_back (fun vs H Q E h => ?_) (fun cdv A outer s H vs Q E hr h => ?_)
  · obtain ⟨G, d, B, Tl, af, more, tf, rfl, _⟩ := h
    rfl
  · obtain ⟨G, d, B, Tl, af, more, tf, rfl, hT, h0, hg, k⟩ := h
    have nd := sc_pay_back.nd
    have hr1 : Room 1 _ := hr.mono (by decide)
    have hr4 : Room 4 _ := hr.mono (by decide)
    refine ⟨_, pss_cons (ps_set (i := 1) nd rfl (Or.inl rfl) pe_bl)
      (pss_one (ps_while PassesOwn.never (pt_not (pt_truth (pv 1) (fun _ => rfl)))
        (pss_one (ps_set (i := 1) nd rfl (Or.inl rfl) (pe_meth (pv 0) T.cl_Turn T.me_Turn_pay_coins (ok_pay_coins T) hr T.b_Turn_pay_coins .nil pass0 (pa_cons
          (pe_call (ok_payment_back T) hr4 rfl T.mg_payment_back T.F_payment_back.kp T.b_payment_back .nil pass0 (pa_cons (pe_fld (pv 0) rfl) (pa_cons (pe_meth0 (pv 0) T.cl_Turn T.me_Turn_usable (ok_usable T) hr1 T.b_Turn_usable .nil pass0) (pa_cons (pe_fld (pv 0) rfl) pa_nil)))) pa_nil)))))), ?_⟩
    refine ⟨fun m σ H' => ∃ (b : Bool) (h' : Nat) (as' : List (List Int)) (a' : Abs) (more' : List (List Int)), σ = [some (.ref d.p), some (.bl b)] ∧ Sep G H' (tuC a (d.go h' as' a')) ∧ Way a G d B Tl af (d.asks ++ more) tf h' as' a' more' ∧ a'.set = d.a.set ∧ (b = true → Kp123.greatest a' = 0) ∧ m = (if b = true then 0 else mu a' + 1),
      ⟨mu d.a + 1, false, d.heard, d.asks, d.a, more, rfl, h0, ⟨hT, hg, rfl⟩, rfl, (fun q => by cases q), rfl⟩, ?_⟩
    rintro m σ H' ⟨b, h1, as1, a1, more1, rfl, hs1, W1, hset, hb, rfl⟩
    refine ⟨_, rfl, _, rfl, ?_⟩
    cases b with
    | true =>
      refine iteF ?_
      obtain ⟨e1, e2, e3⟩ := goes_done W1.goes (hb rfl)
      subst e1 e2 e3
      have e4 : as1 = d.asks ++ more := by rw [← W1.all, List.append_nil]
      subst e4
      exact k H' h1 hs1 W1.ok rfl
    | false =>
      refine iteT ?_
      have o : AOk a1 := W1.ok.ok
      refine ⟨fun σ' H' => ∃ m', m' < mu a1 + 1 ∧ ∃ (b : Bool) (h' : Nat) (as' : List (List Int)) (a' : Abs) (more' : List (List Int)), σ' = [some (.ref d.p), some (.bl b)] ∧ Sep G H' (tuC a (d.go h' as' a')) ∧ Way a G d B Tl af (d.asks ++ more) tf h' as' a' more' ∧ a'.set = d.a.set ∧ (b = true → Kp123.greatest a' = 0) ∧ m' = (if b = true then 0 else mu a' + 1), fun σ' H' hN => hN, ?_⟩
      refine ⟨_, rfl, d.p, d.dp, _, rfl, hs1.at 2, tuM_pay_coins, _, rfl, d.p, _, d.dp, _, _, rfl, hs1.at 2, T.cl_Turn, T.no_Turn_value, tuF_value, _, rfl, d.p, d.dp, _, rfl, hs1.at 2, tuM_usable, G, d.go h1 as1 a1, B, Tl, rfl, W1.ok, hs1, fun H2 u s2 hu => ?_⟩
      have hs2 := hs1.ext s2
      refine ⟨_, rfl, d.p, _, d.dp, _, _, rfl, hs2.at 2, T.cl_Turn, T.no_Turn_credit, tuF_credit, d.val, u, Kp123.coins a1, a1.credit, ?_, coinsAt (A := a) o (hs2.same _ _ W1.ok.val) hu, credit_le o, fun H3 r s3 hrn hr3 => ?_⟩
      · show [V.ref d.val, V.ref u, V.int (Kp123.credit a1.set a1.w)] = _
        rw [← credit_nat o]
        rfl
      rw [planA_eq] at hr3
      have hs3 : Sep G H3 (tuC a (d.go h1 as1 a1) ++ [(r, .lst ((planA a1).map vN))]) := (hs2.add s3 hrn hr3).perm (List.perm_append_comm (l₁ := [(r, HO.lst ((planA a1).map vN))]))
      have sG : Same G (addC G [(r, .lst ((planA a1).map vN))]) := fun b o e => addC_of hs3 e
      refine ⟨addC G [(r, .lst ((planA a1).map vN))], d, B, Tl, af, d.asks ++ more, tf, h1, as1, a1, more1, r, rfl, ⟨W1.ok.more sG, W1.goes, W1.all⟩, hs3.lend _, addC_own hs3 0, fun H4 b h4 as4 a4 more4 hs4 W4 hb4 hm4 => ?_⟩
      have hset4 : a4.set = d.a.set := (goes_set W4.goes).symm.trans ((goes_set W1.goes).trans hset)
      refine ⟨if b = true then 0 else mu a4 + 1, ?_, b, h4, as4, a4, more4, rfl, hs4.weak sG, ⟨hT.goes W4.ok hset4, W4.goes, W4.all⟩, hset4, hb4, rfl⟩
      cases b with
      | true => exact Nat.succ_pos _
      | false => exact Nat.succ_lt_succ (hm4 rfl)
/-! end -/
def sp_end (A : Ad) : Sp := fun vs H Q _ => ∃ (G : Hp) (d : TD) (B : SuA) (Tl : List Int) (n : Int), vs = [.ref d.p, .int n] ∧ TuOk A G d B Tl ∧ Sep G H (tuC A d) ∧
  ∀ (H' : Hp) (p : Addr), Sep G H' ((p, .lst ((n :: ((d.asks ++ Kp123Neutral.lastly d.a).length : Int) :: (d.asks ++ Kp123Neutral.lastly d.a).flatMap id).map V.int)) :: tuC A (d.go d.heard (d.asks ++ Kp123Neutral.lastly d.a) d.a)) → Q (.ref p) H'
theorem sc_end : FnScope ["self", "number", "stuck"] ["self", "number"] (defScope s_Turn_end) := ⟨rfl, rfl, rfl, by decide +kernel, rfl, by decide +kernel, by decide +kernel⟩
def notV : V → V
  | .bl b => .bl (!b)
  | _ => .non
theorem ok_end (T : Txt K mg a) : FnOk P w K mg base CX0 6 a.f_Turn_end a.d_Turn_end ["self", "number"] (sp_end a) := by
  refine T.F_Turn_end.ok sc_end (fun vs H Q E h => ?_) (fun cdv A outer s H vs Q E hr h => ?_)
  · obtain ⟨G, d, B, Tl, n, rfl, _⟩ := h
    rfl
  · obtain ⟨G, d, B, Tl, n, rfl, hT, h0, k⟩ := h
    have nd := sc_end.nd
    have hr1 : Room 1 _ := hr.mono (by decide)
    have hr2 : Room 2 _ := hr.mono (by decide)
    refine ⟨_, pss_cons (ps_expr (pe_meth (pe_fld (pv 0) rfl) T.cl_Around T.me_Around_show (ok_show T) hr2 T.b_Around_show .nil pass0 (pa_cons (pe_fld (pv 0) rfl) (pa_cons (pe_call (ok_bits T) hr1 rfl T.mg_bits T.F_bits.kp T.b_bits .nil pass0 (pa_cons (pe_meth0 (pv 0) T.cl_Turn T.me_Turn_for_sale (ok_for_sale T) hr T.b_Turn_for_sale .nil pass0) pa_nil)) pa_nil))))
      (pss_cons (ps_if (pt_cmpR op_lt (pe_fld (pv 0) rfl) (pe_fld (pe_fld (pe_fld (pv 0) rfl) rfl) rfl) (nomark _))
        (pss_one (ps_expr (pe_meth (pe_fld (pv 0) rfl) T.cl_Around T.me_Around_take (ok_take T) hr2 T.b_Around_take .nil pass0 (pa_cons (pe_call (ok_bits T) hr1 rfl T.mg_bits T.F_bits.kp T.b_bits .nil pass0 (pa_cons
          (pe_lc (own := [("stuck", 2)]) rfl nd (pi_list (pe_fld (pe_fld (pv 0) rfl) rfl)) (blkOk_by (by kernel_rfl)) (fun _ _ _ _ _ => pg_name (i := 2) nd rfl (Or.inl rfl) (Or.inr rfl)) (fun _ _ _ _ _ => pts_nil) (fun _ _ _ _ _ => pe_not (pv 2))) pa_nil)) pa_nil))))
        (pss_one (ps_expr (pe_meth (pe_fld (pv 0) rfl) T.cl_Around T.me_Around_take (ok_take T) hr2 T.b_Around_take .nil pass0 (pa_cons pe_int pa_nil)))))
      (pss_one (ps_ret (pe_op op_cat (pe_lst (pa_cons (pv 1) (pa_cons (pe_fld (pe_fld (pv 0) rfl) rfl) pa_nil))) (pe_fld (pe_fld (pv 0) rfl) rfl))))), ?_⟩
    have o := hT.ok
    have hs := szl
    have k8 := o.s.k8
    have s8 := o.s.s8
    have hsz := hT.sz
    have hcr := credit_nat o
    -- show
    refine ⟨_, rfl, d.p, _, d.dp, _, _, rfl, h0.at 2, T.cl_Turn, T.no_Turn_around, tuF_around, d.r, d.dr, _, rfl, h0.at 0, arM_show, _, rfl, d.p, _, d.dp, _, _, rfl, h0.at 2, T.cl_Turn, T.no_Turn_credit, tuF_credit, _, rfl, d.p, d.dp, _, rfl, h0.at 2, tuM_for_sale, G, d, B, Tl, rfl, hT, h0, fun H1 u s1 hu => ?_⟩
    refine ⟨u, _, _, rfl, hu, by omega, fun H2 s2 => ?_⟩
    have h2 := (h0.ext s1).ext s2
    refine ⟨addC G (tuR a d), d.r, d.dr, d.told, d.q, d.heard, d.asks.length, _, Kp123.credit d.a.set d.a.w, ((Kp123.lamps d.a : Nat) : Int), rfl, h2.lend _, by omega, fun H3 h3 => ?_⟩
    have h3 := h2.back h3
    -- take
    have fin : ∀ (H4 : Hp), Sep G H4 (arC a.cAround d.r d.dr d.told d.q d.heard (d.asks.length + 1 + 1) (d.asks.flatMap id ++ [7, Kp123.credit d.a.set d.a.w, ((Kp123.lamps d.a : Nat) : Int)] ++ [1, ((Kp123.mouth d.a : Nat) : Int)]) ++ tuR a d) → Sep G H4 (tuC a (d.go d.heard (d.asks ++ Kp123Neutral.lastly d.a) d.a)) := fun H4 h4 => by
      have e1 : (d.asks ++ Kp123Neutral.lastly d.a).length = d.asks.length + 1 + 1 := by rw [List.length_append]; rfl
      have e2 : (d.asks ++ Kp123Neutral.lastly d.a).flatMap id = d.asks.flatMap id ++ [7, Kp123.credit d.a.set d.a.w, ((Kp123.lamps d.a : Nat) : Int)] ++ [1, ((Kp123.mouth d.a : Nat) : Int)] := by
        rw [List.flatMap_append, List.append_assoc]
        unfold Kp123Neutral.lastly
        rw [hcr]
        rfl
      show Sep G H4 (arC a.cAround d.r d.dr d.told d.q d.heard (d.asks ++ Kp123Neutral.lastly d.a).length ((d.asks ++ Kp123Neutral.lastly d.a).flatMap id) ++ tuR a d)
      rw [e1, e2]
      exact h4
    have e1 : (d.asks ++ Kp123Neutral.lastly d.a).length = d.asks.length + 1 + 1 := by rw [List.length_append]; rfl
    have e2 : (d.asks ++ Kp123Neutral.lastly d.a).flatMap id = d.asks.flatMap id ++ [7, Kp123.credit d.a.set d.a.w, ((Kp123.lamps d.a : Nat) : Int)] ++ [1, ((Kp123.mouth d.a : Nat) : Int)] := by
      rw [List.flatMap_append, List.append_assoc]
      unfold Kp123Neutral.lastly
      rw [hcr]
      rfl
    have hlen3 : (d.asks.flatMap id ++ [7, Kp123.credit d.a.set d.a.w, ((Kp123.lamps d.a : Nat) : Int)]).length = (d.asks.flatMap id).length + 3 := by rw [List.length_append]; rfl
    refine ⟨_, rfl, d.p, _, d.dp, _, _, rfl, h3.at 2, T.cl_Turn, T.no_Turn_credit, tuF_credit, _, rfl, d.p, _, d.dp, _, _, rfl, h3.at 2, T.cl_Turn, T.no_Turn_machine, tuF_machine, d.m, _, d.dm, _, _, rfl, h3.same _ _ hT.mach, T.cl_Machine, T.no_Machine_setup, maF_setup,
      d.su, _, _, _, _, rfl, h3.same _ _ hT.set.ob, T.cl_Setup, T.no_Setup_most, suF_most, _, _, rfl, rfl, _, rfl, ?_⟩
    refine ite2 (fun hc => ?_) (fun hc => ?_)
    · have hlt : d.a.credit < d.a.set.most := by
        have := of_decide_eq_true hc
        omega
      have em : Kp123.mouth d.a = bitsN (fun k => !d.a.stuck.contains k) d.a.set.kinds := by rw [mouth_bits, if_pos hlt]
      refine ⟨_, rfl, d.p, _, d.dp, _, _, rfl, h3.at 2, T.cl_Turn, T.no_Turn_around, tuF_around, d.r, d.dr, _, rfl, h3.at 0, arM_take, _, rfl, d.p, _, d.dp, _, _, rfl, h3.at 2, T.cl_Turn, T.no_Turn_machine, tuF_machine, d.m, _, d.dm, _, _, rfl, h3.same _ _ hT.mach, T.cl_Machine, T.no_Machine_stuck, maF_stuck,
        d.l1, rfl, ⟨_, SqL.of (h3.at 5)⟩, fun D hD => lc_list_pure (f := notV) (SqL.of (h3.at 5)) hD ?_ (fun _ => rfl) (fun x hx H4 Q4 s4 q4 => ?_) fun H4 s4 hD4 => ?_⟩
      · unfold stuckL
        rw [List.length_map, List.length_map, List.length_range]; omega
      · obtain ⟨x', _, rfl⟩ := List.mem_map.mp hx
        exact ⟨_, rfl, _, rfl, q4⟩
      refine ⟨D, d.a.set.kinds, fun k => !d.a.stuck.contains k, rfl, ?_, by omega, fun H5 s5 => ?_⟩
      · rw [hD4]
        unfold stuckL
        rw [List.map_map, List.map_map, List.map_map]
        rfl
      have h5 := (h3.ext s4).ext s5
      refine ⟨addC G (tuR a d), d.r, d.dr, d.told, d.q, d.heard, d.asks.length + 1, _, ((Kp123.mouth d.a : Nat) : Int), (by rw [em]; rfl), h5.lend _, by omega, fun H6 h6 => ?_⟩
      have h4 := h5.back h6
      refine ⟨_, rfl, _, rfl, d.p, _, d.dp, _, _, rfl, h4.at 2, T.cl_Turn, T.no_Turn_around, tuF_around, d.r, _, d.dr, _, _, rfl, h4.at 0, T.cl_Around, T.no_Around_times, arF_times, (by show 2 ≤ sizeLine; omega), fun b hb => ?_⟩
      have h5 := h4.ext (same_new (o := .lst [V.int n, vN (d.asks.length + 1 + 1)]) hb)
      refine ⟨_, rfl, d.p, _, d.dp, _, _, rfl, h5.at 2, T.cl_Turn, T.no_Turn_around, tuF_around, d.r, _, d.dr, _, _, rfl, h5.at 0, T.cl_Around, T.no_Around_asked, arF_asked, b, d.q, _, _, rfl, rfl, upd_same, h5.at 1, ?_, fun p hp => ?_⟩
      · rw [List.length_map, List.length_append, List.length_append]
        show 2 + (_ + 3 + 2) ≤ sizeLine
        omega
      · refine k _ p ?_
        have h6 := (fin _ h5).new (p := p) (o := .lst ((n :: ((d.asks ++ Kp123Neutral.lastly d.a).length : Int) :: (d.asks ++ Kp123Neutral.lastly d.a).flatMap id).map V.int)) hp
        have e3 : [V.int n, vN (d.asks.length + 1 + 1)] ++ (d.asks.flatMap id ++ [7, Kp123.credit d.a.set d.a.w, ((Kp123.lamps d.a : Nat) : Int)] ++ [1, ((Kp123.mouth d.a : Nat) : Int)]).map V.int = (n :: ((d.asks ++ Kp123Neutral.lastly d.a).length : Int) :: (d.asks ++ Kp123Neutral.lastly d.a).flatMap id).map V.int := by
          rw [e1, e2]
          rfl
        rw [← e3] at h6 ⊢
        exact h6
    · have hlt : ¬ d.a.credit < d.a.set.most := fun q => hc (decide_eq_true (by
        show Kp123.credit d.a.set d.a.w < (d.a.set.most : Int)
        omega))
      have em : Kp123.mouth d.a = 0 := by rw [mouth_bits, if_neg hlt]
      refine ⟨_, rfl, d.p, _, d.dp, _, _, rfl, h3.at 2, T.cl_Turn, T.no_Turn_around, tuF_around, d.r, d.dr, _, rfl, h3.at 0, arM_take, addC G (tuR a d), d.r, d.dr, d.told, d.q, d.heard, d.asks.length + 1, _, ((Kp123.mouth d.a : Nat) : Int), (by rw [em]; rfl), h3.lend _, by omega, fun H6 h6 => ?_⟩
      have h4 := h3.back h6
      refine ⟨_, rfl, _, rfl, d.p, _, d.dp, _, _, rfl, h4.at 2, T.cl_Turn, T.no_Turn_around, tuF_around, d.r, _, d.dr, _, _, rfl, h4.at 0, T.cl_Around, T.no_Around_times, arF_times, (by show 2 ≤ sizeLine; omega), fun b hb => ?_⟩
      have h5 := h4.ext (same_new (o := .lst [V.int n, vN (d.asks.length + 1 + 1)]) hb)
      refine ⟨_, rfl, d.p, _, d.dp, _, _, rfl, h5.at 2, T.cl_Turn, T.no_Turn_around, tuF_around, d.r, _, d.dr, _, _, rfl, h5.at 0, T.cl_Around, T.no_Around_asked, arF_asked, b, d.q, _, _, rfl, rfl, upd_same, h5.at 1, ?_, fun p hp => ?_⟩
      · rw [List.length_map, List.length_append, List.length_append]
        show 2 + (_ + 3 + 2) ≤ sizeLine
        omega
      · refine k _ p ?_
        have h6 := (fin _ h5).new (p := p) (o := .lst ((n :: ((d.asks ++ Kp123Neutral.lastly d.a).length : Int) :: (d.asks ++ Kp123Neutral.lastly d.a).flatMap id).map V.int)) hp
        have e3 : [V.int n, vN (d.asks.length + 1 + 1)] ++ (d.asks.flatMap id ++ [7, Kp123.credit d.a.set d.a.w, ((Kp123.lamps d.a : Nat) : Int)] ++ [1, ((Kp123.mouth d.a : Nat) : Int)]).map V.int = (n :: ((d.asks ++ Kp123Neutral.lastly d.a).length : Int) :: (d.asks ++ Kp123Neutral.lastly d.a).flatMap id).map V.int := by
          rw [e1, e2]
          rfl
        rw [← e3] at h6 ⊢
        exact h6
end
end Hs
end
section
set_option Elab.async false
set_option linter.all false
set_option maxRecDepth 100000
set_option maxHeartbeats 4000000
namespace Hs
open PySem PySem.Spec PyProof.Rows L2
open Kp123 (Setup Abs at_)
structure Sml (S : Setup) : Prop where
  value : ∀ v ∈ S.value, v < 2 ^ 32
  price : ∀ v ∈ S.price, v < 2 ^ 32
theorem cI_sml {l : List Nat} (h : ∀ v ∈ l, v < 2 ^ 32) : ∀ x ∈ cI l, -(2 ^ 64) < x ∧ x < 2 ^ 64 := fun x hx => by
  obtain ⟨v, hv, e⟩ := List.mem_map.mp hx
  have := h v hv
  rw [← e]
  omega
theorem Sep.pick {G H : Hp} {cs ds : Cells} (s : ds.Sublist cs) (h : Sep G H cs) : Sep G H ds :=
  ⟨h.same, h.nd.sublist (s.map _), fun x hx => h.own x (s.mem hx)⟩
theorem addC_same {G H : Hp} {cs ds : Cells} (h : Sep G H (cs ++ ds)) : Same G (addC G ds) := fun b o e => addC_of h e
theorem cut_val (S : Setup) (L : Lens S) (o : SOk S) : cutV ((cI S.value).map V.int) Option.none (some (S.kinds : Int)) = valV S := by
  rw [cut_cI]
  unfold cI valV
  rw [List.map_map]
  refine List.ext_getElem? fun i => ?_
  rw [List.getElem?_map, List.getElem?_take, List.getElem?_map]
  have k8 := o.k8
  by_cases hi : i < S.kinds
  · have hl : i < S.value.length := by rw [L.value]; omega
    rw [if_pos hi, List.getElem?_eq_getElem hl, List.getElem?_range hi]
    show some (V.int _) = some (V.int _)
    unfold at_
    rw [List.getD_eq_getElem?_getD, List.getElem?_eq_getElem hl]
    rfl
  · rw [if_neg hi]
    have : (List.range S.kinds)[i]? = none := List.getElem?_eq_none_iff.mpr (by rw [List.length_range]; omega)
    rw [this]
    rfl
def op3 : V → V → V → V
  | .int i, .int j, .int k => .int (i + j - k)
  | _, _, _ => .non
section
variable {P : Program} {w : World} {K : PySem.W.Frag} {mg : Str → Option Value} {base : Heap} {a : Ad}
def nTold (S : Setup) : Nat := S.kinds + S.kinds + S.slots
def sp_Turn_init (A : Ad) : Sp := fun vs H Q _ => ∃ (G : Hp) (x dx m dm su l1 l2 told : Addr) (B : SuA) (Tl : List Int) (a0 : Abs), vs = [.ref x, .ref m, .ref told] ∧ Sep G H [(x, .ins A.cTurn dx [])] ∧ G m = some (maO A.cMachine dm (.ref su) l1 l2) ∧ SetupAt A.cSetup G su a0.set B ∧ G told = some (.lst (Tl.map V.int)) ∧
  SOk a0.set ∧ Lens a0.set ∧ Sml a0.set ∧ Told a0.set Tl ∧ a0.w = (Kp123Neutral.reads a0.set Tl).1 ∧
  ∀ (H' : Hp) (r dr q hand left val : Addr), Sep G H' [(left, .lst ((leftL a0).map V.int)), (hand, .lst ((handL a0).map V.int)), (val, .lst (valV a0.set)), (r, arO A.cAround dr told q (nTold a0.set) (Kp123Neutral.first a0.set).length), (q, .lst (((Kp123Neutral.first a0.set).flatMap id).map V.int)),
    (x, tuO A.cTurn dx m r val hand left (Kp123.credit a0.set a0.w))] → Q .non H'
theorem first_flat (S : Setup) : (Kp123Neutral.first S).flatMap id = [1, 0] ++ (asksF 2 S.kinds).flatMap id ++ (asksF 3 S.kinds).flatMap id ++ (asksF 4 S.slots).flatMap id := by
  show [1, 0] ++ ((asksF 2 S.kinds ++ asksF 3 S.kinds) ++ asksF 4 S.slots).flatMap id = _
  rw [List.flatMap_append, List.flatMap_append]
  simp only [List.append_assoc]
theorem first_len (S : Setup) : (Kp123Neutral.first S).length = 0 + 1 + S.kinds + S.kinds + S.slots := by
  show ((asksF 2 S.kinds ++ asksF 3 S.kinds) ++ asksF 4 S.slots).length + 1 = _
  unfold asksF
  rw [List.length_append, List.length_append, List.length_map, List.length_map, List.length_map, List.length_range, List.length_range]
  omega
theorem sc_Turn_init : FnScope ["self", "machine", "told", "setup", "around", "came", "paid", "fell", "tube", "more", "less", "stock", "gone"] ["self", "machine", "told"] (defScope s_Turn_init) := ⟨rfl, rfl, rfl, by decide +kernel, rfl, by decide +kernel, by decide +kernel⟩
theorem ok_Turn_init (T : Txt K mg a) : FnOk P w K mg base CX0 4 a.f_Turn_init a.d_Turn_init ["self", "machine", "told"] (sp_Turn_init a) := by
  refine T.F_Turn_init.ok sc_Turn_init (fun vs H Q E h => ?_) (fun cdv A outer s H vs Q E hr h => ?_)
  · obtain ⟨G, x, dx, m, dm, su, l1, l2, told, B, Tl, a0, rfl, _⟩ := h
    rfl
  · obtain ⟨G, x, dx, m, dm, su, l1, l2, told, B, Tl, a0, rfl, h0, hm, hS, ht, ho, hL, hM, hTd, hw, k⟩ := h
    have nd := sc_Turn_init.nd
    have hr1 : Room 1 _ := hr.mono (by decide)
    have hr2 : Room 2 _ := hr.mono (by decide)
    refine ⟨_, pss_cons (ps_set (i := 3) nd rfl (Or.inl rfl) (pe_fld (pv 1) rfl))
      (pss_cons (ps_set (i := 4) nd rfl (Or.inl rfl) (pe_make T.mk_Around (ok_Around_init T) hr2 rfl T.mg_Around T.b_Around_init .nil pass0 (pa_cons (pv 2) pa_nil)))
      (pss_cons (ps_expr (pe_meth (pv 4) T.cl_Around T.me_Around_take (ok_take T) hr2 T.b_Around_take .nil pass0 (pa_cons pe_int pa_nil)))
      (pss_cons (ps_set (i := 5) nd rfl (Or.inl rfl) (pe_call (ok_since T) hr1 rfl T.mg_since T.F_since.kp T.b_since .nil pass0 (pa_cons (pe_meth (pv 4) T.cl_Around T.me_Around_counters (ok_counters T) hr T.b_Around_counters .nil pass0 (pa_cons (pe_gI T.g_IN) (pa_cons (pe_fld (pv 3) rfl) pa_nil))) (pa_cons (pe_fld (pv 3) rfl) pa_nil))))
      (pss_cons (ps_set (i := 6) nd rfl (Or.inl rfl) (pe_call (ok_since T) hr1 rfl T.mg_since T.F_since.kp T.b_since .nil pass0 (pa_cons (pe_meth (pv 4) T.cl_Around T.me_Around_counters (ok_counters T) hr T.b_Around_counters .nil pass0 (pa_cons (pe_gI T.g_OUT) (pa_cons (pe_fld (pv 3) rfl) pa_nil))) (pa_cons (pe_fld (pv 3) rfl) pa_nil))))
      (pss_cons (ps_set (i := 7) nd rfl (Or.inl rfl) (pe_call (ok_since T) hr1 rfl T.mg_since T.F_since.kp T.b_since .nil pass0 (pa_cons (pe_meth (pv 4) T.cl_Around T.me_Around_counters (ok_counters T) hr T.b_Around_counters .nil pass0 (pa_cons (pe_gI T.g_FELL) (pa_cons (pe_fld (pv 3) rfl) pa_nil))) (pa_cons (pe_fld (pv 3) rfl) pa_nil))))
      (pss_cons (ps_fld (pv 0) (pv 1) rfl)
      (pss_cons (ps_fld (pv 0) (pv 4) rfl)
      (pss_cons (ps_fld (pv 0) (pe_slice sl_list (pe_fld (pv 3) rfl) po_none (po_some (pe_fld (pv 3) rfl))) rfl)
      (pss_cons (ps_fld (pv 0) (pe_lc (own := [("tube", 8), ("more", 9), ("less", 10)]) (g := gTup K 3 (gCons (gName 8) (gCons (gName 9) (gCons (gName 10) gNil)))) rfl nd (pi_zip3 (by rfl) T.n_zip (pa_cons (pe_fld (pv 3) rfl) (pa_cons (pv 5) (pa_cons (pv 6) pa_nil)))) (blkOk_by (by kernel_rfl))
        (fun _ _ _ _ _ => pg_tup rfl (pgs_cons (pg_name (i := 8) nd rfl (Or.inl rfl) (Or.inr rfl)) (pgs_cons (pg_name (i := 9) nd rfl (Or.inl rfl) (Or.inr rfl)) (pgs_cons (pg_name (i := 10) nd rfl (Or.inl rfl) (Or.inr rfl)) pgs_nil)))) (fun _ _ _ _ _ => pts_nil) (fun _ _ _ _ _ => pe_op op_sub (pe_op op_add (pv 8) (pv 9)) (pv 10))) rfl)
      (pss_cons (ps_fld (pv 0) (pe_lc (own := [("stock", 11), ("gone", 12)]) (g := gTup K 2 (gCons (gName 11) (gCons (gName 12) gNil))) rfl nd (pi_zip (by rfl) T.n_zip (pa_cons (pe_fld (pv 3) rfl) (pa_cons (pv 7) pa_nil))) (blkOk_by (by kernel_rfl))
        (fun _ _ _ _ _ => pg_tup rfl (pgs_cons (pg_name (i := 11) nd rfl (Or.inl rfl) (Or.inr rfl)) (pgs_cons (pg_name (i := 12) nd rfl (Or.inl rfl) (Or.inr rfl)) pgs_nil))) (fun _ _ _ _ _ => pts_nil) (fun _ _ _ _ _ => pe_op op_sub (pv 11) (pv 12))) rfl)
      (pss_one (ps_fld (pv 0) (pe_op op_sub (pe_op op_sub (pe_call (ok_worth T) hr1 rfl T.mg_worth T.F_worth.kp T.b_worth .nil pass0 (pa_cons (pe_fld (pv 3) rfl) (pa_cons (pv 5) pa_nil))) (pe_call (ok_worth T) hr1 rfl T.mg_worth T.F_worth.kp T.b_worth .nil pass0 (pa_cons (pe_fld (pv 3) rfl) (pa_cons (pv 6) pa_nil))))
        (pe_call (ok_worth T) hr1 rfl T.mg_worth T.F_worth.kp T.b_worth .nil pass0 (pa_cons (pe_fld (pv 3) rfl) (pa_cons (pv 7) pa_nil)))) rfl)))))))))))), ?_⟩
    have hs := szl
    have k8 := ho.k8
    have s8 := ho.s8
    have hTl := hTd.len
    -- setup = machine.setup
    refine ⟨_, rfl, m, _, dm, _, _, rfl, h0.same _ _ hm, T.cl_Machine, T.no_Machine_setup, maF_setup, ?_⟩
    -- around = Around(told)
    refine ⟨_, rfl, fun r dr hrn hdn hne => ?_⟩
    have h1 := (h0.ext (same_new (o := HO.own r) hdn)).new (p := r) (o := .ins a.cAround dr []) (by rw [upd_ne (Ne.symm hne)]; exact hrn)
    have h1 : Sep G _ ([(r, .ins a.cAround dr [])] ++ [(x, .ins a.cTurn dx [])]) := h1
    have s1 := addC_same h1
    refine ⟨addC G [(x, .ins a.cTurn dx [])], r, dr, told, rfl, h1.lend _, fun H2 q h2 => ⟨rfl, ?_⟩⟩
    generalize hG1 : addC G [(x, HO.ins a.cTurn dx [])] = G1 at s1 h2
    -- around.take(0)
    refine ⟨_, rfl, r, dr, _, rfl, h2.at 0, arM_take, G1, r, dr, told, q, 0, 0, [], 0, rfl, h2, (by show 0 + 2 ≤ 1000000; decide), fun H3 h3 => ?_⟩
    -- came
    refine ⟨_, rfl, r, dr, _, rfl, h3.at 0, arM_counters, _, rfl, su, _, _, _, _, rfl, h3.same _ _ (s1 _ _ hS.ob), T.cl_Setup, T.no_Setup_kinds, suF_kinds, G1, r, dr, told, q, 0, 0 + 1, [] ++ [1, 0], Tl, 2, a0.set.kinds, rfl, h3, s1 _ _ ht, by omega, k8, (by show 2 + 20 ≤ 1000000; decide), fun H4 p4 h4 hp4 => ?_⟩
    refine ⟨_, rfl, su, _, _, _, _, rfl, h4.same _ _ (s1 _ _ hS.ob), T.cl_Setup, T.no_Setup_in0, suF_in0, p4, B.i, (Tl.drop 0).take a0.set.kinds, cI a0.set.in0, rfl, hp4, h4.same _ _ (s1 _ _ hS.i), by rw [List.length_take]; omega, fun H5 c1 s5 hc1n hc1 => ?_⟩
    have ec1 : List.zipWith (fun x y => x - y) ((Tl.drop 0).take a0.set.kinds) (cI a0.set.in0) = (List.range a0.set.kinds).map (Kp123.since a0.w.ins a0.set.in0) := by rw [hw]; exact came_eq ho hL hTd
    rw [ec1] at hc1
    have h5 : Sep G1 H5 (_ ++ [(c1, .lst (((List.range a0.set.kinds).map (Kp123.since a0.w.ins a0.set.in0)).map V.int))]) := (h4.add s5 hc1n hc1).perm (List.perm_append_comm (l₁ := [(c1, _)]))
    have s2 := addC_same h5
    have h5' := h5.lend _
    have hc1G := addC_own h5 0
    generalize hG2 : addC G1 [(c1, HO.lst (((List.range a0.set.kinds).map (Kp123.since a0.w.ins a0.set.in0)).map V.int))] = G2 at s2 h5' hc1G
    -- paid
    refine ⟨_, rfl, r, dr, _, rfl, h5'.at 0, arM_counters, _, rfl, su, _, _, _, _, rfl, h5'.same _ _ (s2 _ _ (s1 _ _ hS.ob)), T.cl_Setup, T.no_Setup_kinds, suF_kinds, G2, r, dr, told, q, 0 + a0.set.kinds, 0 + 1 + a0.set.kinds, _, Tl, 3, a0.set.kinds, rfl, h5', s2 _ _ (s1 _ _ ht), by omega, k8, ?_, fun H6 p6 h6 hp6 => ?_⟩
    · rw [List.length_append, asksF_len]
      show 2 + 2 * a0.set.kinds + 20 ≤ 1000000
      omega
    refine ⟨_, rfl, su, _, _, _, _, rfl, h6.same _ _ (s2 _ _ (s1 _ _ hS.ob)), T.cl_Setup, T.no_Setup_out0, suF_out0, p6, B.o, (Tl.drop (0 + a0.set.kinds)).take a0.set.kinds, cI a0.set.out0, rfl, hp6, h6.same _ _ (s2 _ _ (s1 _ _ hS.o)), by rw [List.length_take]; omega, fun H7 c2 s7 hc2n hc2 => ?_⟩
    have ec2 : List.zipWith (fun x y => x - y) ((Tl.drop (0 + a0.set.kinds)).take a0.set.kinds) (cI a0.set.out0) = (List.range a0.set.kinds).map (Kp123.since a0.w.outs a0.set.out0) := by rw [hw, Nat.zero_add]; exact paid_eq ho hL hTd
    rw [ec2] at hc2
    have h7 : Sep G2 H7 (_ ++ [(c2, .lst (((List.range a0.set.kinds).map (Kp123.since a0.w.outs a0.set.out0)).map V.int))]) := (h6.add s7 hc2n hc2).perm (List.perm_append_comm (l₁ := [(c2, _)]))
    have s3 := addC_same h7
    have h7' := h7.lend _
    have hc2G := addC_own h7 0
    generalize hG3 : addC G2 [(c2, HO.lst (((List.range a0.set.kinds).map (Kp123.since a0.w.outs a0.set.out0)).map V.int))] = G3 at s3 h7' hc2G
    -- fell
    refine ⟨_, rfl, r, dr, _, rfl, h7'.at 0, arM_counters, _, rfl, su, _, _, _, _, rfl, h7'.same _ _ (s3 _ _ (s2 _ _ (s1 _ _ hS.ob))), T.cl_Setup, T.no_Setup_slots, suF_slots, G3, r, dr, told, q, 0 + a0.set.kinds + a0.set.kinds, 0 + 1 + a0.set.kinds + a0.set.kinds, _, Tl, 4, a0.set.slots, rfl, h7', s3 _ _ (s2 _ _ (s1 _ _ ht)), by omega, s8, ?_, fun H8 p8 h8 hp8 => ?_⟩
    · rw [List.length_append, List.length_append, asksF_len, asksF_len]
      show 2 + 2 * a0.set.kinds + 2 * a0.set.kinds + 20 ≤ 1000000
      omega
    refine ⟨_, rfl, su, _, _, _, _, rfl, h8.same _ _ (s3 _ _ (s2 _ _ (s1 _ _ hS.ob))), T.cl_Setup, T.no_Setup_fell0, suF_fell0, p8, B.f, (Tl.drop (0 + a0.set.kinds + a0.set.kinds)).take a0.set.slots, cI a0.set.fell0, rfl, hp8, h8.same _ _ (s3 _ _ (s2 _ _ (s1 _ _ hS.f))), by rw [List.length_take]; omega, fun H9 c3 s9 hc3n hc3 => ?_⟩
    have ec3 : List.zipWith (fun x y => x - y) ((Tl.drop (0 + a0.set.kinds + a0.set.kinds)).take a0.set.slots) (cI a0.set.fell0) = (List.range a0.set.slots).map (Kp123.since a0.w.fells a0.set.fell0) := by rw [hw, Nat.zero_add]; exact fell_eq ho hL hTd
    rw [ec3] at hc3
    -- out of the frames
    subst hG3
    have g3 := h7.back h8
    subst hG2
    have g2 := h5.back g3
    subst hG1
    have g1 := h1.back g2
    have b0 := g1.add s9 hc3n hc3
    refine ⟨_, rfl, _, rfl, x, _, dx, _, rfl, b0.at 5, T.cl_Turn, T.no_Turn_machine, (by show 0 < 1000; decide), ?_⟩
    have b1 := b0.set 5 (.ins a.cTurn dx [("machine", V.ref m)])
    refine ⟨_, rfl, _, rfl, x, _, dx, _, rfl, b1.at 5, T.cl_Turn, T.no_Turn_around, (by show 1 < 1000; decide), ?_⟩
    rw [tuI1]
    have b2 := b1.set 5 (.ins a.cTurn dx [("machine", V.ref m), ("around", V.ref r)])
    refine ⟨_, rfl, su, _, _, _, _, rfl, b2.same _ _ hS.ob, T.cl_Setup, T.no_Setup_value, suF_value, _, rfl, su, _, _, _, _, rfl, b2.same _ _ hS.ob, T.cl_Setup, T.no_Setup_kinds, suF_kinds, _, rfl, B.v, _, rfl, SqL.of (b2.same _ _ hS.v), fun val hval => ?_⟩
    rw [cut_val a0.set hL ho]
    have b3 := b2.new (o := .lst (valV a0.set)) hval
    refine ⟨_, rfl, x, _, dx, _, rfl, b3.at 6, T.cl_Turn, T.no_Turn_value, (by show 2 < 1000; decide), ?_⟩
    rw [tuI2]
    have b4 := b3.set 6 (.ins a.cTurn dx [("machine", V.ref m), ("around", V.ref r), ("value", V.ref val)])
    -- at_hand
    refine ⟨_, rfl, su, _, _, _, _, rfl, b4.same _ _ hS.ob, T.cl_Setup, T.no_Setup_tube, suF_tube, _, rfl, _, rfl, B.t, c1, c2, _, _, _, rfl, SqL.of (b4.same _ _ hS.t), SqL.of (b4.at 5), SqL.of (b4.at 4), fun hand hhand =>
      lc_zip3_pure (f := op3) (SqL.of (b4.same _ _ hS.t)) (SqL.of (b4.at 5)) (SqL.of (b4.at 4)) hhand ?_ (fun _ _ _ => rfl) (fun x y z hx hy hz H3 Q3 s3 q3 => ?_) fun H10 s10 hh10 => ?_⟩
    · unfold cI
      rw [List.length_map, List.length_map, hL.tube]; omega
    · obtain ⟨x', _, rfl⟩ := List.mem_map.mp hx
      obtain ⟨y', _, rfl⟩ := List.mem_map.mp hy
      obtain ⟨z', _, rfl⟩ := List.mem_map.mp hz
      exact ⟨_, rfl, _, rfl, _, _, rfl, rfl, _, rfl, _, _, rfl, rfl, q3⟩
    rw [zipW3_mapV (f' := fun x y z => x + y - z) (z := V.int) (fun _ _ _ => rfl), hand_eq ho hL] at hh10
    have b5 := b4.add s10 hhand hh10
    refine ⟨_, rfl, x, _, dx, _, rfl, b5.at 7, T.cl_Turn, T.no_Turn_at_hand, (by show 3 < 1000; decide), ?_⟩
    rw [tuI3]
    have b6 := b5.set 7 (.ins a.cTurn dx [("machine", V.ref m), ("around", V.ref r), ("value", V.ref val), ("at_hand", V.ref hand)])
    -- left
    refine ⟨_, rfl, su, _, _, _, _, rfl, b6.same _ _ hS.ob, T.cl_Setup, T.no_Setup_stock, suF_stock, _, rfl, B.q, c3, _, _, rfl, SqL.of (b6.same _ _ hS.q), SqL.of (b6.at 2), fun left hleft =>
      lc_zip_pure (f := op2 fun x y => x - y) (SqL.of (b6.same _ _ hS.q)) (SqL.of (b6.at 2)) hleft (.inl ?_) (fun _ _ => rfl) (fun x y hx hy H3 Q3 s3 q3 => ?_) fun H11 s11 hh11 => ?_⟩
    · unfold cI
      rw [List.length_map, List.length_map, hL.stock]; omega
    · obtain ⟨x', _, rfl⟩ := List.mem_map.mp hx
      obtain ⟨y', _, rfl⟩ := List.mem_map.mp hy
      exact ⟨_, rfl, _, rfl, _, _, rfl, rfl, q3⟩
    rw [op2_map, left_eq ho hL] at hh11
    have b7 := b6.add s11 hleft hh11
    refine ⟨_, rfl, x, _, dx, _, rfl, b7.at 8, T.cl_Turn, T.no_Turn_left, (by show 4 < 1000; decide), ?_⟩
    rw [tuI4]
    have b8 := b7.set 8 (.ins a.cTurn dx [("machine", V.ref m), ("around", V.ref r), ("value", V.ref val), ("at_hand", V.ref hand), ("left", V.ref left)])
    -- credit
    have hcv : (cI a0.set.value).length ≤ 1000 := by unfold cI; rw [List.length_map, hL.value]; omega
    have hcp : (cI a0.set.price).length ≤ 1000 := by unfold cI; rw [List.length_map, hL.price]; omega
    refine ⟨_, rfl, su, _, _, _, _, rfl, b8.same _ _ hS.ob, T.cl_Setup, T.no_Setup_value, suF_value, _, rfl, B.v, c1, _, _, rfl, b8.same _ _ hS.v, b8.at 7, hcv, cI_sml hM.value, fun H12 s12 => ?_⟩
    have b9 := b8.ext s12
    refine ⟨_, rfl, su, _, _, _, _, rfl, b9.same _ _ hS.ob, T.cl_Setup, T.no_Setup_value, suF_value, _, rfl, B.v, c2, _, _, rfl, b9.same _ _ hS.v, b9.at 6, hcv, cI_sml hM.value, fun H13 s13 => ?_⟩
    have b10 := b9.ext s13
    refine ⟨_, _, rfl, rfl, _, rfl, su, _, _, _, _, rfl, b10.same _ _ hS.ob, T.cl_Setup, T.no_Setup_price, suF_price, _, rfl, B.p, c3, _, _, rfl, b10.same _ _ hS.p, b10.at 3, hcp, cI_sml hM.price, fun H14 s14 => ?_⟩
    have b11 := b10.ext s14
    refine ⟨_, _, rfl, rfl, _, rfl, x, _, dx, _, rfl, b11.at 8, T.cl_Turn, T.no_Turn_credit, (by show 5 < 1000; decide), ?_⟩
    rw [tuI5]
    have ew : (List.zipWith (fun x y => x * y) (cI a0.set.value) ((List.range a0.set.kinds).map (Kp123.since a0.w.ins a0.set.in0))).sum - (List.zipWith (fun x y => x * y) (cI a0.set.value) ((List.range a0.set.kinds).map (Kp123.since a0.w.outs a0.set.out0))).sum -
        (List.zipWith (fun x y => x * y) (cI a0.set.price) ((List.range a0.set.slots).map (Kp123.since a0.w.fells a0.set.fell0))).sum = Kp123.credit a0.set a0.w := by
      rw [worth_eq ho hL, worth_eq ho hL, prices_eq ho hL]
      rfl
    have b12 := b11.set 8 (.ins a.cTurn dx [("machine", V.ref m), ("around", V.ref r), ("value", V.ref val), ("at_hand", V.ref hand), ("left", V.ref left), ("credit", V.int ((List.zipWith (fun x y => x * y) (cI a0.set.value) ((List.range a0.set.kinds).map (Kp123.since a0.w.ins a0.set.in0))).sum - (List.zipWith (fun x y => x * y) (cI a0.set.value) ((List.range a0.set.kinds).map (Kp123.since a0.w.outs a0.set.out0))).sum -
        (List.zipWith (fun x y => x * y) (cI a0.set.price) ((List.range a0.set.slots).map (Kp123.since a0.w.fells a0.set.fell0))).sum))])
    refine k _ r dr q hand left val ?_
    have e0 : nTold a0.set = 0 + a0.set.kinds + a0.set.kinds + a0.set.slots := by unfold nTold; omega
    rw [first_len, first_flat, e0, ← ew]
    exact b12.pick (.cons₂ _ (.cons₂ _ (.cons₂ _ (.cons _ (.cons₂ _ (.cons₂ _ (.cons _ (.cons _ (.cons₂ _ .slnil)))))))))
end
end Hs
end
section
set_option Elab.async false
set_option linter.all false
set_option maxRecDepth 100000
set_option maxHeartbeats 4000000
namespace Hs
open PySem PySem.Spec PyProof.Rows L2
open Kp123 (Setup Abs at_)
open Kp123Neutral (Box What Done)
/-- some of the cells, in another order -/
theorem Sep.sel {G H : Hp} {cs ds : Cells} (h : Sep G H cs) (idx : List Nat) (hn : idx.Nodup) (hd : ds.map some = idx.map fun i => cs[i]?) : Sep G H ds := by
  have hlen : ds.length = idx.length := by
    have := congrArg List.length hd
    rw [List.length_map, List.length_map] at this
    exact this
  have get : ∀ (i : Nat) (x : Addr × HO), ds[i]? = some x → ∃ j, idx[i]? = some j ∧ cs[j]? = some x := fun i x e => by
    have h1 := congrArg (fun l => l[i]?) hd
    simp only [List.getElem?_map] at h1
    rw [e] at h1
    cases e2 : idx[i]? with
    | none => rw [e2] at h1; cases h1
    | some j =>
      rw [e2] at h1
      exact ⟨j, rfl, (Option.some.inj h1).symm⟩
  refine ⟨h.same, ?_, fun x hx => ?_⟩
  · refine List.pairwise_iff_getElem.mpr fun i j hi hj hij e => ?_
    rw [List.length_map] at hi hj
    rw [List.getElem_map, List.getElem_map] at e
    obtain ⟨i', a1, a2⟩ := get i _ (List.getElem?_eq_getElem hi)
    obtain ⟨j', b1, b2⟩ := get j _ (List.getElem?_eq_getElem hj)
    have c1 : (cs.map (·.1))[i']? = some ds[i].1 := by rw [List.getElem?_map, a2]; rfl
    have c2 : (cs.map (·.1))[j']? = some ds[i].1 := by rw [List.getElem?_map, b2, e]; rfl
    have := nd_ix h.nd c1 c2
    subst this
    have := nd_ix hn a1 b1
    omega
  · obtain ⟨i, hi⟩ := List.getElem?_of_mem hx
    obtain ⟨j, _, hj⟩ := get i x hi
    exact h.own x (List.mem_of_getElem? hj)
/-! ### a machine -/
def maC (b : Box) (l1 l2 : Addr) : Cells := [(l1, .lst ((stuckL b.set b.stuck).map V.bl)), (l2, .lst ((failedL b.set b.failed).map V.bl))]
structure MaOk (A : Ad) (G : Hp) (m dm su l1 l2 : Addr) (B : SuA) (b : Box) : Prop where
  mach : G m = some (maO A.cMachine dm (.ref su) l1 l2)
  set : SetupAt A.cSetup G su b.set B
  ok : SOk b.set
  lens : Lens b.set
  sml : Sml b.set
structure FairB (b : Box) (x : What) (t : List Int) : Prop where
  told : Told b.set t
  snd : Kp123Neutral.sound b (Kp123Neutral.reads b.set t).1 = true
  left : (Kp123Neutral.played b x t).left = some []
  len : t.length ≤ 20000
def absOf (b : Box) (t : List Int) : Abs := Kp123Neutral.whole b (Kp123Neutral.reads b.set t).1
theorem reads_rest (S : Setup) (t : List Int) : (Kp123Neutral.reads S t).2 = t.drop (nTold S) := rfl
/-- what a call answers, and the machine behind it -/
def ansOf (b : Box) (x : What) (t : List Int) : List Int :=
  let d := Kp123Neutral.played b x t
  let l := Kp123Neutral.first b.set ++ d.asks ++ Kp123Neutral.lastly d.abs
  d.ans :: (l.length : Int) :: l.flatMap id
def boxOf (b : Box) (x : What) (t : List Int) : Box := let d := Kp123Neutral.played b x t
  ⟨b.set, d.abs.stuck, d.abs.failed⟩
section
variable {P : Program} {w : World} {K : PySem.W.Frag} {mg : Str → Option Value} {base : Heap} {a : Ad}
theorem turn_new {A : Ad} {G H : Hp} {m dm su l1 l2 told : Addr} {B : SuA} {b : Box} {Tl : List Int} {Q : V → Hp → Prop} {E : XK} {x dx : Addr} (M : MaOk A G m dm su l1 l2 B b) (h : Sep G H (maC b l1 l2)) (ht : G told = some (.lst (Tl.map V.int)))
    (hTd : Told b.set Tl) (hsn : Kp123Neutral.sound b (Kp123Neutral.reads b.set Tl).1 = true) (hlen : Tl.length ≤ 20000) (hx : H x = Option.none) (hdx : H dx = Option.none) (hne : dx ≠ x)
    (k : ∀ (H' : Hp) (r dr q hand left val : Addr) (G' : Hp), Same G G' → TuOk A G' ⟨r, dr, q, x, dx, hand, left, l1, l2, told, m, dm, su, val, nTold b.set, Kp123Neutral.first b.set, absOf b Tl⟩ B Tl →
      Sep G' H' (tuC A ⟨r, dr, q, x, dx, hand, left, l1, l2, told, m, dm, su, val, nTold b.set, Kp123Neutral.first b.set, absOf b Tl⟩) → Q .non H') :
    sp_Turn_init A (.ref x :: ([.ref m, .ref told] ++ [])) (upd (upd H dx (.own x)) x (.ins A.cTurn dx [])) Q E := by
  have h1 : Sep G (upd (upd H dx (.own x)) x (.ins A.cTurn dx [])) ([(x, .ins A.cTurn dx [])] ++ maC b l1 l2) := (h.ext (same_new (o := HO.own x) hdx)).new (by rw [upd_ne (Ne.symm hne)]; exact hx)
  have s1 := addC_same h1
  refine ⟨addC G (maC b l1 l2), x, dx, m, dm, su, l1, l2, told, B, Tl, absOf b Tl, rfl, h1.lend _, s1 _ _ M.mach, M.set.same s1, s1 _ _ ht, M.ok, M.lens, M.sml, hTd, rfl, fun H2 r dr q hand left val h2 => ?_⟩
  have h3 := h1.back h2
  have h4 : Sep G H2 (tuC A ⟨r, dr, q, x, dx, hand, left, l1, l2, told, m, dm, su, val, nTold b.set, Kp123Neutral.first b.set, absOf b Tl⟩ ++ [(val, .lst (valV b.set))]) := h3.sel [3, 4, 5, 1, 0, 6, 7, 2] (by decide) rfl
  have s2 := addC_same h4
  refine k H2 r dr q hand left val _ s2 ⟨s2 _ _ ht, s2 _ _ M.mach, M.set.same s2, addC_own h4 0, aok_start M.ok hsn, M.lens, ?_⟩ (h4.lend _)
  show ((Kp123Neutral.first b.set).flatMap id).length + 2 * (Tl.length - nTold b.set) ≤ 900000
  have k8 := M.ok.k8
  have s8 := M.ok.s8
  rw [first_flat, List.length_append, List.length_append, List.length_append, asksF_len, asksF_len, asksF_len]
  show 2 + _ + _ + _ + _ ≤ _
  omega
theorem turn_done {A : Ad} {G G' H : Hp} {d : TD} {b : Box} {p : Addr} {o : HO} (s : Same G G') (h : Sep G' H ((p, o) :: tuC A d)) (hb : d.a.set = b.set) (h1 : d.a.stuck = b.stuck) (h2 : d.a.failed = b.failed) : Sep G H ((p, o) :: maC b d.l1 d.l2) := by
  have h3 : Sep G H ((p, o) :: [(d.l1, .lst ((stuckL d.a.set d.a.stuck).map V.bl)), (d.l2, .lst ((failedL d.a.set d.a.failed).map V.bl))]) := (h.weak s).sel [0, 6, 7] (by decide) rfl
  rw [hb, h1, h2] at h3
  exact h3
/-! tick -/
def sp_call (A : Ad) (x : What) : Sp := fun vs H Q _ => ∃ (G : Hp) (m dm su l1 l2 told : Addr) (B : SuA) (b : Box) (Tl : List Int), vs = [.ref m, .ref told] ∧ MaOk A G m dm su l1 l2 B b ∧ Sep G H (maC b l1 l2) ∧ G told = some (.lst (Tl.map V.int)) ∧ FairB b x Tl ∧
  ∀ (H' : Hp) (p : Addr), Sep G H' ((p, .lst ((ansOf b x Tl).map V.int)) :: maC (boxOf b x Tl) l1 l2) → Q (.ref p) H'
theorem sc_tick : FnScope ["machine", "told", "turn"] ["machine", "told"] (defScope s_tick) := ⟨rfl, rfl, rfl, by decide +kernel, rfl, by decide +kernel, by decide +kernel⟩
theorem ok_tick (T : Txt K mg a) : FnOk P w K mg base CX0 7 a.f_tick a.d_tick ["machine", "told"] (sp_call a .tick) := by
  refine T.F_tick.ok sc_tick (fun vs H Q E h => ?_) (fun cdv A outer s H vs Q E hr h => ?_)
  · obtain ⟨G, m, dm, su, l1, l2, told, B, b, Tl, rfl, _⟩ := h
    rfl
  · obtain ⟨G, m, dm, su, l1, l2, told, B, b, Tl, rfl, M, h0, ht, hF, k⟩ := h
    have nd := sc_tick.nd
    have hr5 : Room 5 _ := hr.mono (by decide)
    refine ⟨_, pss_cons (ps_set (i := 2) nd rfl (Or.inl rfl) (pe_make T.mk_Turn (ok_Turn_init T) hr5 rfl T.mg_Turn T.b_Turn_init .nil pass0 (pa_cons (pv 0) (pa_cons (pv 1) pa_nil))))
      (pss_one (ps_ret (pe_meth (pv 2) T.cl_Turn T.me_Turn_end (ok_end T) hr T.b_Turn_end .nil pass0 (pa_cons (pe_fld (pv 2) rfl) pa_nil)))), ?_⟩
    refine ⟨_, rfl, _, rfl, ?_⟩
    intro x dx hx hdx hne
    refine turn_new M h0 ht hF.told hF.snd hF.len hx hdx hne fun H1 r dr q hand left val G' sG hT h1 => ⟨rfl, ?_⟩
    refine ⟨_, rfl, x, dx, _, rfl, h1.at 2, tuM_end, _, rfl, x, _, dx, _, _, rfl, h1.at 2, T.cl_Turn, T.no_Turn_credit, tuF_credit, G', _, B, Tl, _, rfl, hT, h1, fun H2 p h2 => ?_⟩
    have o := hT.ok
    have h3 := turn_done (b := boxOf b .tick Tl) sG h2 rfl rfl rfl
    refine k H2 p ?_
    have e : ansOf b .tick Tl = Kp123.credit (absOf b Tl).set (absOf b Tl).w :: ((Kp123Neutral.first b.set ++ Kp123Neutral.lastly (absOf b Tl)).length : Int) :: (Kp123Neutral.first b.set ++ Kp123Neutral.lastly (absOf b Tl)).flatMap id := by
      show ((absOf b Tl).credit : Int) :: ((Kp123Neutral.first b.set ++ [] ++ Kp123Neutral.lastly (absOf b Tl)).length : Int) :: (Kp123Neutral.first b.set ++ [] ++ Kp123Neutral.lastly (absOf b Tl)).flatMap id = _
      rw [List.append_nil, credit_nat o]
    rw [e]
    exact h3
end
end Hs
end
section
set_option Elab.async false
set_option linter.all false
set_option maxRecDepth 100000
set_option maxHeartbeats 4000000
namespace Hs
open PySem PySem.Spec PyProof.Rows L2
open Kp123 (Setup Abs at_)
open Kp123Neutral (Box What Done)
theorem goes_aok {a1 af : Abs} {t tf : List Int} {more : List (List Int)} (g : Goes a1 t af more tf) (o : AOk a1) : AOk af := by
  induction g with
  | done => exact o
  | step _ h _ ih => exact ih (aok_ev _ o (find_may h))
section
variable {P : Program} {w : World} {K : PySem.W.Frag} {mg : Str → Option Value} {base : Heap} {a : Ad}
/-! cancel -/
theorem sc_cancel : FnScope ["machine", "told", "turn"] ["machine", "told"] (defScope s_cancel) := ⟨rfl, rfl, rfl, by decide +kernel, rfl, by decide +kernel, by decide +kernel⟩
theorem ok_cancel (T : Txt K mg a) : FnOk P w K mg base CX0 7 a.f_cancel a.d_cancel ["machine", "told"] (sp_call a .cancel) := by
  refine T.F_cancel.ok sc_cancel (fun vs H Q E h => ?_) (fun cdv A outer s H vs Q E hr h => ?_)
  · obtain ⟨G, m, dm, su, l1, l2, told, B, b, Tl, rfl, _⟩ := h
    rfl
  · obtain ⟨G, m, dm, su, l1, l2, told, B, b, Tl, rfl, M, h0, ht, hF, k⟩ := h
    have nd := sc_cancel.nd
    have hr5 : Room 5 _ := hr.mono (by decide)
    refine ⟨_, pss_cons (ps_set (i := 2) nd rfl (Or.inl rfl) (pe_make T.mk_Turn (ok_Turn_init T) hr5 rfl T.mg_Turn T.b_Turn_init .nil pass0 (pa_cons (pv 0) (pa_cons (pv 1) pa_nil))))
      (pss_cons (ps_expr (pe_meth0 (pv 2) T.cl_Turn T.me_Turn_pay_back (ok_pay_back T) hr T.b_Turn_pay_back .nil pass0))
      (pss_one (ps_ret (pe_meth (pv 2) T.cl_Turn T.me_Turn_end (ok_end T) hr T.b_Turn_end .nil pass0 (pa_cons (pe_fld (pv 2) rfl) pa_nil))))), ?_⟩
    refine ⟨_, rfl, _, rfl, ?_⟩
    intro x dx hx hdx hne
    refine turn_new M h0 ht hF.told hF.snd hF.len hx hdx hne fun H1 r dr q hand left val G' sG hT h1 => ⟨rfl, ?_⟩
    have o : AOk (absOf b Tl) := hT.ok
    have hleft : (Kp123Neutral.pays Kp123Neutral.FUEL (absOf b Tl) (Tl.drop (nTold b.set))).2.2 = some [] := hF.left
    have hg := goes_of Kp123Neutral.FUEL (absOf b Tl) (Tl.drop (nTold b.set)) [] o (mu_le o) hleft
    have ea : ansOf b .cancel Tl = (((Kp123Neutral.pays Kp123Neutral.FUEL (absOf b Tl) (Tl.drop (nTold b.set))).1.credit : Nat) : Int) :: ((Kp123Neutral.first b.set ++ (Kp123Neutral.pays Kp123Neutral.FUEL (absOf b Tl) (Tl.drop (nTold b.set))).2.1 ++ Kp123Neutral.lastly (Kp123Neutral.pays Kp123Neutral.FUEL (absOf b Tl) (Tl.drop (nTold b.set))).1).length : Int) ::
      (Kp123Neutral.first b.set ++ (Kp123Neutral.pays Kp123Neutral.FUEL (absOf b Tl) (Tl.drop (nTold b.set))).2.1 ++ Kp123Neutral.lastly (Kp123Neutral.pays Kp123Neutral.FUEL (absOf b Tl) (Tl.drop (nTold b.set))).1).flatMap id := rfl
    have eb : boxOf b .cancel Tl = ⟨b.set, (Kp123Neutral.pays Kp123Neutral.FUEL (absOf b Tl) (Tl.drop (nTold b.set))).1.stuck, (Kp123Neutral.pays Kp123Neutral.FUEL (absOf b Tl) (Tl.drop (nTold b.set))).1.failed⟩ := rfl
    rw [ea, eb] at k
    generalize Kp123Neutral.pays Kp123Neutral.FUEL (absOf b Tl) (Tl.drop (nTold b.set)) = py at *
    obtain ⟨af, more, tl⟩ := py
    dsimp only at hleft hg k
    refine ⟨_, rfl, x, dx, _, rfl, h1.at 2, tuM_pay_back, G', _, B, Tl, af, more, [], rfl, hT, h1, hg, fun H2 h' h2 hT2 _ => ?_⟩
    refine ⟨_, rfl, x, dx, _, rfl, h2.at 2, tuM_end, _, rfl, x, _, dx, _, _, rfl, h2.at 2, T.cl_Turn, T.no_Turn_credit, tuF_credit, G', _, B, Tl, _, rfl, hT2, h2, fun H3 p h3 => ?_⟩
    have o2 : AOk af := hT2.ok
    have h4 := turn_done (b := ⟨b.set, af.stuck, af.failed⟩) sG h3 (goes_set hg) rfl rfl
    refine k H3 p ?_
    rw [credit_nat o2]
    exact h4
/-! sell -/
def sp_sell (A : Ad) : Sp := fun vs H Q _ => ∃ (G : Hp) (d : TD) (B : SuA) (Tl : List Int) (s : Nat), vs = [.ref d.p, vN s] ∧ TuOk A G d B Tl ∧ Sep G H (tuC A d) ∧ s < d.a.set.slots ∧ (Kp123Neutral.does d.a (Tl.drop d.heard) (.press s)).left = some [] ∧
  ∀ (H' : Hp) (h' : Nat), Sep G H' (tuC A (d.go h' (d.asks ++ (Kp123Neutral.does d.a (Tl.drop d.heard) (.press s)).asks) (Kp123Neutral.does d.a (Tl.drop d.heard) (.press s)).abs)) → TuOk A G (d.go h' (d.asks ++ (Kp123Neutral.does d.a (Tl.drop d.heard) (.press s)).asks) (Kp123Neutral.does d.a (Tl.drop d.heard) (.press s)).abs) B Tl →
    Q (.int (Kp123Neutral.does d.a (Tl.drop d.heard) (.press s)).ans) H'
theorem sc_sell : FnScope ["turn", "slot"] ["turn", "slot"] (defScope s_sell) := ⟨rfl, rfl, rfl, by decide +kernel, rfl, by decide +kernel, by decide +kernel⟩
theorem does_no {a1 : Abs} {t : List Int} {s : Nat} (hb : Kp123.canBuy a1 s = false) : Kp123Neutral.does a1 t (.press s) = ⟨a1, [], -33, some t⟩ := by
  show (if Kp123.canBuy a1 s = false then _ else _) = _
  rw [if_pos hb]
theorem does_short {a1 : Abs} {s : Nat} (hb : Kp123.canBuy a1 s = true) : (Kp123Neutral.does a1 [] (.press s)).left = none := by
  have h : Kp123Neutral.does a1 [] (.press s) = ⟨a1, [[6, (s : Int)]], 0, none⟩ := by
    show (if Kp123.canBuy a1 s = false then _ else _) = _
    rw [if_neg (by rw [hb]; decide)]
  rw [h]
theorem does_fail {a1 : Abs} {z : Int} {r : List Int} {s : Nat} (hb : Kp123.canBuy a1 s = true) (hz : (z == 1) = false) : Kp123Neutral.does a1 (z :: r) (.press s) = ⟨a1.ev (.drop s false), [[6, (s : Int)]], -5, some r⟩ := by
  show (if Kp123.canBuy a1 s = false then _ else if (z == 1) = true then _ else _) = _
  rw [if_neg (by rw [hb]; decide), if_neg (by rw [hz]; decide)]
theorem does_fall {a1 : Abs} {z : Int} {r : List Int} {s : Nat} (hb : Kp123.canBuy a1 s = true) (hz : (z == 1) = true) : Kp123Neutral.does a1 (z :: r) (.press s) = Kp123Neutral.back (a1.ev (.drop s true)) r [[6, (s : Int)]] := by
  show (if Kp123.canBuy a1 s = false then _ else if (z == 1) = true then _ else _) = _
  rw [if_neg (by rw [hb]; decide), if_pos hz]
theorem does_set (a1 : Abs) (t : List Int) (s : Nat) (o : AOk a1) (hl : (Kp123Neutral.does a1 t (.press s)).left = some []) : (Kp123Neutral.does a1 t (.press s)).abs.set = a1.set := by
  cases hb : Kp123.canBuy a1 s with
  | false => rw [does_no hb]
  | true =>
    cases t with
    | nil => rw [does_short hb] at hl; cases hl
    | cons z r =>
      cases hz : (z == 1) with
      | false =>
        rw [does_fail hb hz]
        rfl
      | true =>
        rw [does_fall hb hz] at hl ⊢
        obtain ⟨c1, c2, c3⟩ := canBuy_facts hb
        have o2 := aok_drop o c1 c2 c3
        have g := goes_set (goes_of Kp123Neutral.FUEL (a1.ev (.drop s true)) r [] o2 (mu_le o2) hl)
        exact g
theorem ok_sell (T : Txt K mg a) : FnOk P w K mg base CX0 7 a.f_sell a.d_sell ["turn", "slot"] (sp_sell a) := by
  refine T.F_sell.ok sc_sell (fun vs H Q E h => ?_) (fun cdv A outer s H vs Q E hr h => ?_)
  · obtain ⟨G, d, B, Tl, s, rfl, _⟩ := h
    rfl
  · obtain ⟨G, d, B, Tl, s, rfl, hT, h0, hs, hl, k⟩ := h
    have hr5 : Room 5 _ := hr.mono (by decide)
    have hr4 : Room 4 _ := hr.mono (by decide)
    refine ⟨_, pss_cons (ps_if (pt_not (pt_truth (pe_ix ix_list (pe_meth0 (pv 0) T.cl_Turn T.me_Turn_for_sale (ok_for_sale T) hr5 T.b_Turn_for_sale .nil pass0) (pv 1) (fun _ _ => rfl)) (fun _ => rfl))) (pss_one (ps_ret (pe_gI T.g_NOT_FOR_SALE))) pss_nil)
      (pss_cons (ps_if (pt_not (pt_truth (pe_meth (pv 0) T.cl_Turn T.me_Turn_drop (ok_Tdrop T) hr4 T.b_Turn_drop .nil pass0 (pa_cons (pv 1) pa_nil)) (fun _ => rfl))) (pss_one (ps_ret (pe_gI T.g_DID_NOT_FALL))) pss_nil)
      (pss_cons (ps_expr (pe_meth0 (pv 0) T.cl_Turn T.me_Turn_pay_back (ok_pay_back T) hr T.b_Turn_pay_back .nil pass0))
      (pss_one (ps_ret (pe_fld (pv 0) rfl))))), ?_⟩
    have o := hT.ok
    refine ⟨_, rfl, d.p, d.dp, _, rfl, h0.at 2, tuM_for_sale, G, d, B, Tl, rfl, hT, h0, fun H1 u s1 hu => ?_⟩
    have h1 := h0.ext s1
    refine ⟨_, rfl, u, _, _, V.bl (Kp123.canBuy d.a s), rfl, rfl, SqL.of hu, atI_nat (j := s) (by rw [List.getElem?_map, get_rmap _ hs]; rfl), _, rfl, ?_⟩
    cases hb : Kp123.canBuy d.a s with
    | false =>
      rw [does_no hb] at hl k
      refine iteT ?_
      refine k H1 d.heard ?_ ?_
      · rw [List.append_nil]; exact h1
      · rw [List.append_nil]; exact hT
    | true =>
      refine iteF ?_
      cases ht : Tl.drop d.heard with
      | nil =>
        rw [ht, does_short hb] at hl
        cases hl
      | cons z r =>
        rw [ht] at hl k
        obtain ⟨hz, hr'⟩ := drop_get ht
        have hlt : d.heard < Tl.length := (List.getElem?_eq_some_iff.mp hz).1
        obtain ⟨c1, c2, c3⟩ := canBuy_facts hb
        refine ⟨_, rfl, d.p, d.dp, _, rfl, h1.at 2, tuM_drop, _, rfl, G, d, B, Tl, s, z, rfl, hT, h1, hz, hb, fun H2 h2 => ⟨_, rfl, ?_⟩⟩
        cases hz1 : (z == 1) with
        | false =>
          rw [hz1] at h2
          rw [does_fail hb hz1] at hl k
          refine iteT ?_
          refine k H2 (d.heard + 1) h2 ?_
          exact hT.ask (x := [6, (s : Int)]) (a' := d.a.ev (.drop s false)) rfl (aok_fail o) rfl hlt
        | true =>
          rw [hz1] at h2
          rw [does_fall hb hz1] at hl k
          refine iteF ?_
          have o2 := aok_drop o c1 c2 c3
          have hT2 := hT.ask (x := [6, (s : Int)]) (a' := d.a.ev (.drop s true)) rfl o2 rfl hlt
          have hg := goes_of Kp123Neutral.FUEL (d.a.ev (.drop s true)) r [] o2 (mu_le o2) hl
          refine ⟨_, rfl, d.p, d.dp, _, rfl, h2.at 2, tuM_pay_back, G, d.ask [6, (s : Int)] (d.a.ev (.drop s true)), B, Tl, (Kp123Neutral.pays Kp123Neutral.FUEL (d.a.ev (.drop s true)) r).1, (Kp123Neutral.pays Kp123Neutral.FUEL (d.a.ev (.drop s true)) r).2.1, [], rfl, hT2, h2, ?_, fun H3 h' h3 hT3 _ => ?_⟩
          · show Goes (d.a.ev (.drop s true)) (Tl.drop (d.heard + 1)) _ _ []
            rw [hr']
            exact hg
          · have o3 : AOk (Kp123Neutral.pays Kp123Neutral.FUEL (d.a.ev (.drop s true)) r).1 := hT3.ok
            have e : (d.asks ++ [[6, (s : Int)]]) ++ (Kp123Neutral.pays Kp123Neutral.FUEL (d.a.ev (.drop s true)) r).2.1 = d.asks ++ ([[6, (s : Int)]] ++ (Kp123Neutral.pays Kp123Neutral.FUEL (d.a.ev (.drop s true)) r).2.1) := List.append_assoc _ _ _
            have h3 : Sep G H3 (tuC a (d.go h' ((d.asks ++ [[6, (s : Int)]]) ++ (Kp123Neutral.pays Kp123Neutral.FUEL (d.a.ev (.drop s true)) r).2.1) (Kp123Neutral.pays Kp123Neutral.FUEL (d.a.ev (.drop s true)) r).1)) := h3
            have hT3 : TuOk a G (d.go h' ((d.asks ++ [[6, (s : Int)]]) ++ (Kp123Neutral.pays Kp123Neutral.FUEL (d.a.ev (.drop s true)) r).2.1) (Kp123Neutral.pays Kp123Neutral.FUEL (d.a.ev (.drop s true)) r).1) B Tl := hT3
            rw [e] at h3 hT3
            have k2 := k H3 h' h3 hT3
            refine ⟨_, rfl, d.p, _, d.dp, _, _, rfl, h3.at 2, T.cl_Turn, T.no_Turn_credit, tuF_credit, ?_⟩
            have ec : (Kp123Neutral.back (d.a.ev (.drop s true)) r [[6, (s : Int)]]).ans = Kp123.credit (Kp123Neutral.pays Kp123Neutral.FUEL (d.a.ev (.drop s true)) r).1.set (Kp123Neutral.pays Kp123Neutral.FUEL (d.a.ev (.drop s true)) r).1.w := credit_nat o3
            rw [ec] at k2
            exact k2
end
end Hs
end
section
set_option Elab.async false
set_option linter.all false
set_option maxRecDepth 100000
set_option maxHeartbeats 4000000
namespace Hs
open PySem PySem.Spec PyProof.Rows L2
open Kp123 (Setup Abs at_)
open Kp123Neutral (Box What Done)
section
variable {P : Program} {w : World} {K : PySem.W.Frag} {mg : Str → Option Value} {base : Heap} {a : Ad}
/-! refusal -/
def noO : HO := .lst (([-22, 0] : List Int).map V.int)
def sp_refusal : Sp := fun vs H Q _ => vs = [] ∧ ∀ (H' : Hp) (p : Addr), Same H H' → H p = Option.none → H' p = some noO → Q (.ref p) H'
theorem sc_refusal : FnScope [] [] (defScope s_refusal) := ⟨rfl, rfl, rfl, by decide +kernel, rfl, by decide +kernel, by decide +kernel⟩
theorem ok_refusal (T : Txt K mg a) : FnOk P w K mg base CX0 1 a.f_refusal a.d_refusal [] sp_refusal := by
  refine T.F_refusal.ok sc_refusal (fun vs H Q E h => ?_) (fun cdv A outer s H vs Q E hr h => ?_)
  · obtain ⟨rfl, _⟩ := h
    rfl
  · obtain ⟨rfl, k⟩ := h
    refine ⟨_, pss_one (ps_ret (pe_lst (pa_cons (pe_gI T.g_WRONG) (pa_cons pe_int pa_nil)))), ?_⟩
    have hs := szl
    exact ⟨by show 2 ≤ sizeLine; omega, fun p hp => k _ p (same_new hp) hp upd_same⟩
/-! press -/
def sp_press (A : Ad) : Sp := fun vs H Q _ => ∃ (G : Hp) (m dm su l1 l2 told : Addr) (B : SuA) (b : Box) (Tl : List Int) (s : Nat), vs = [.ref m, vN s, .ref told] ∧ MaOk A G m dm su l1 l2 B b ∧ Sep G H (maC b l1 l2) ∧
  (s < b.set.slots → G told = some (.lst (Tl.map V.int)) ∧ FairB b (.press s) Tl ∧ ∀ (H' : Hp) (p : Addr), Sep G H' ((p, .lst ((ansOf b (.press s) Tl).map V.int)) :: maC (boxOf b (.press s) Tl) l1 l2) → Q (.ref p) H') ∧
  (¬ s < b.set.slots → ∀ (H' : Hp) (p : Addr), Sep G H' ((p, noO) :: maC b l1 l2) → Q (.ref p) H')
theorem sc_press : FnScope ["machine", "slot", "told", "turn"] ["machine", "slot", "told"] (defScope s_press) := ⟨rfl, rfl, rfl, by decide +kernel, rfl, by decide +kernel, by decide +kernel⟩
theorem ok_press (T : Txt K mg a) : FnOk P w K mg base CX0 8 a.f_press a.d_press ["machine", "slot", "told"] (sp_press a) := by
  refine T.F_press.ok sc_press (fun vs H Q E h => ?_) (fun cdv A outer s H vs Q E hr h => ?_)
  · obtain ⟨G, m, dm, su, l1, l2, told, B, b, Tl, s, rfl, _⟩ := h
    rfl
  · obtain ⟨G, m, dm, su, l1, l2, told, B, b, Tl, s, rfl, M, h0, k1, k2⟩ := h
    have nd := sc_press.nd
    have hr1 : Room 1 _ := hr.mono (by decide)
    have hr5 : Room 5 _ := hr.mono (by decide)
    have hr6 : Room 6 _ := hr.mono (by decide)
    refine ⟨_, pss_cons (ps_if (pt_cmpR op_ge (pv 1) (pe_fld (pe_fld (pv 0) rfl) rfl) (nomark _)) (pss_one (ps_ret (pe_call0 (ok_refusal T) hr1 rfl T.mg_refusal T.F_refusal.kp T.b_refusal .nil pass0))) pss_nil)
      (pss_cons (ps_set (i := 3) nd rfl (Or.inl rfl) (pe_make T.mk_Turn (ok_Turn_init T) hr5 rfl T.mg_Turn T.b_Turn_init .nil pass0 (pa_cons (pv 0) (pa_cons (pv 2) pa_nil))))
      (pss_one (ps_ret (pe_meth (pv 3) T.cl_Turn T.me_Turn_end (ok_end T) hr6 T.b_Turn_end .nil pass0 (pa_cons (pe_call (ok_sell T) hr rfl T.mg_sell T.F_sell.kp T.b_sell .nil pass0 (pa_cons (pv 3) (pa_cons (pv 1) pa_nil))) pa_nil))))), ?_⟩
    refine ⟨_, rfl, _, rfl, m, _, dm, _, _, rfl, h0.same _ _ M.mach, T.cl_Machine, T.no_Machine_setup, maF_setup, su, _, _, _, _, rfl, h0.same _ _ M.set.ob, T.cl_Setup, T.no_Setup_slots, suF_slots, _, _, rfl, rfl, _, rfl, ?_⟩
    refine ite2 (fun hc => ?_) (fun hc => ?_)
    · have hn : ¬ s < b.set.slots := by
        have := of_decide_eq_true hc
        omega
      exact ⟨rfl, fun H1 p s1 hp hp1 => k2 hn H1 p (h0.add s1 hp hp1)⟩
    · have hlt : s < b.set.slots := by
        by_cases h : s < b.set.slots
        · exact h
        · exact absurd (decide_eq_true (show ((b.set.slots : Nat) : Int) ≤ (s : Int) by omega)) hc
      obtain ⟨ht, hF, k⟩ := k1 hlt
      refine ⟨_, rfl, _, rfl, ?_⟩
      intro x dx hx hdx hne
      refine turn_new M h0 ht hF.told hF.snd hF.len hx hdx hne fun H1 r dr q hand left val G' sG hT h1 => ⟨rfl, ?_⟩
      have o : AOk (absOf b Tl) := hT.ok
      have hleft : (Kp123Neutral.does (absOf b Tl) (Tl.drop (nTold b.set)) (.press s)).left = some [] := hF.left
      have hds := does_set (absOf b Tl) (Tl.drop (nTold b.set)) s o hleft
      have ea : ansOf b (.press s) Tl = (Kp123Neutral.does (absOf b Tl) (Tl.drop (nTold b.set)) (.press s)).ans :: ((Kp123Neutral.first b.set ++ (Kp123Neutral.does (absOf b Tl) (Tl.drop (nTold b.set)) (.press s)).asks ++ Kp123Neutral.lastly (Kp123Neutral.does (absOf b Tl) (Tl.drop (nTold b.set)) (.press s)).abs).length : Int) ::
        (Kp123Neutral.first b.set ++ (Kp123Neutral.does (absOf b Tl) (Tl.drop (nTold b.set)) (.press s)).asks ++ Kp123Neutral.lastly (Kp123Neutral.does (absOf b Tl) (Tl.drop (nTold b.set)) (.press s)).abs).flatMap id := rfl
      have eb : boxOf b (.press s) Tl = ⟨b.set, (Kp123Neutral.does (absOf b Tl) (Tl.drop (nTold b.set)) (.press s)).abs.stuck, (Kp123Neutral.does (absOf b Tl) (Tl.drop (nTold b.set)) (.press s)).abs.failed⟩ := rfl
      rw [ea, eb] at k
      refine ⟨_, rfl, x, dx, _, rfl, h1.at 2, tuM_end, _, rfl, _, rfl, G', ⟨r, dr, q, x, dx, hand, left, l1, l2, told, m, dm, su, val, nTold b.set, Kp123Neutral.first b.set, absOf b Tl⟩, B, Tl, s, rfl, hT, h1, hlt, hleft, fun H2 h' h2 hT2 => ?_⟩
      refine ⟨G', _, B, Tl, _, rfl, hT2, h2, fun H3 p h3 => ?_⟩
      exact k H3 p (turn_done (b := ⟨b.set, (Kp123Neutral.does (absOf b Tl) (Tl.drop (nTold b.set)) (.press s)).abs.stuck, (Kp123Neutral.does (absOf b Tl) (Tl.drop (nTold b.set)) (.press s)).abs.failed⟩) sG h3 hds rfl rfl)
/-! start -/
theorem stuckL_nil (S : Setup) : (stuckL S []).map V.bl = List.replicate S.kinds (V.bl false) := by
  unfold stuckL
  rw [List.map_map]
  refine List.ext_getElem? fun i => ?_
  rw [List.getElem?_map, List.getElem?_replicate]
  by_cases h : i < S.kinds
  · rw [List.getElem?_range h, if_pos h]; rfl
  · rw [List.getElem?_eq_none_iff.mpr (by rw [List.length_range]; omega), if_neg h]; rfl
theorem failedL_nil (S : Setup) : (failedL S []).map V.bl = List.replicate S.slots (V.bl false) := by
  unfold failedL
  rw [List.map_map]
  refine List.ext_getElem? fun i => ?_
  rw [List.getElem?_map, List.getElem?_replicate]
  by_cases h : i < S.slots
  · rw [List.getElem?_range h, if_pos h]; rfl
  · rw [List.getElem?_eq_none_iff.mpr (by rw [List.length_range]; omega), if_neg h]; rfl
def sp_start (A : Ad) : Sp := fun vs H Q _ => ∃ (G : Hp) (m dm : Addr) (y : V) (l1 l2 su told : Addr) (B : SuA) (S : Setup) (Tl : List Int), vs = [.ref m, .ref su, .ref told] ∧ Sep G H [(m, maO A.cMachine dm y l1 l2)] ∧ SetupAt A.cSetup G su S B ∧ Lens S ∧ Sml S ∧
  (Kp123.goodSetup S = true → G told = some (.lst (Tl.map V.int)) ∧ FairB ⟨S, [], []⟩ .cancel Tl ∧ ∀ (H' : Hp) (p m1 m2 : Addr), Sep G H' (((p, .lst ((ansOf ⟨S, [], []⟩ .cancel Tl).map V.int)) :: maC (boxOf ⟨S, [], []⟩ .cancel Tl) m1 m2) ++ [(m, maO A.cMachine dm (.ref su) m1 m2)]) → Q (.ref p) H') ∧
  (Kp123.goodSetup S = false → ∀ (H' : Hp) (p : Addr), Sep G H' [(p, noO), (m, maO A.cMachine dm y l1 l2)] → Q (.ref p) H')
theorem sc_start : FnScope ["machine", "setup", "told"] ["machine", "setup", "told"] (defScope s_start) := ⟨rfl, rfl, rfl, by decide +kernel, rfl, by decide +kernel, by decide +kernel⟩
theorem ok_start (T : Txt K mg a) : FnOk P w K mg base CX0 8 a.f_start a.d_start ["machine", "setup", "told"] (sp_start a) := by
  refine T.F_start.ok sc_start (fun vs H Q E h => ?_) (fun cdv A outer s H vs Q E hr h => ?_)
  · obtain ⟨G, m, dm, y, l1, l2, su, told, B, S, Tl, rfl, _⟩ := h
    rfl
  · obtain ⟨G, m, dm, y, l1, l2, su, told, B, S, Tl, rfl, h0, hS, hL, hM, k1, k2⟩ := h
    have hr1 : Room 1 _ := hr.mono (by decide)
    have hr2 : Room 2 _ := hr.mono (by decide)
    refine ⟨_, pss_cons (ps_if (pt_not (pt_truth (pe_call (ok_is_as_told T) hr2 rfl T.mg_is_as_told T.F_is_as_told.kp T.b_is_as_told .nil pass0 (pa_cons (pv 1) pa_nil)) (fun _ => rfl))) (pss_one (ps_ret (pe_call0 (ok_refusal T) hr1 rfl T.mg_refusal T.F_refusal.kp T.b_refusal .nil pass0))) pss_nil)
      (pss_cons (ps_expr (pe_meth (pv 0) T.cl_Machine T.me_Machine_begin (ok_begin T) hr1 T.b_Machine_begin .nil pass0 (pa_cons (pv 1) pa_nil)))
      (pss_one (ps_ret (pe_call (ok_cancel T) hr rfl T.mg_cancel T.F_cancel.kp T.b_cancel .nil pass0 (pa_cons (pv 0) (pa_cons (pv 2) pa_nil)))))), ?_⟩
    refine ⟨_, rfl, su, S, B, rfl, hS.same h0.same, hL, fun H1 s1 => ⟨_, rfl, ?_⟩⟩
    have h1 := h0.ext s1
    cases hg : Kp123.goodSetup S with
    | false =>
      refine iteT ?_
      exact ⟨rfl, fun H2 p s2 hp hp2 => k2 hg H2 p (h1.add s2 hp hp2)⟩
    | true =>
      refine iteF ?_
      obtain ⟨ht, hF, k⟩ := k1 hg
      have ho := good_ok hL hg
      refine ⟨_, rfl, m, dm, _, rfl, h1.at 0, maM_begin, _, rfl, G, m, dm, su, S, B, y, l1, l2, rfl, h1, hS, ho, fun H2 m1 m2 h2 => ?_⟩
      rw [← stuckL_nil, ← failedL_nil] at h2
      have h3 : Sep G H2 (maC ⟨S, [], []⟩ m1 m2 ++ [(m, maO a.cMachine dm (.ref su) m1 m2)]) := h2.sel [2, 1, 0] (by decide) rfl
      have s3 := addC_same h3
      refine ⟨_, rfl, _, rfl, addC G [(m, maO a.cMachine dm (.ref su) m1 m2)], m, dm, su, m1, m2, told, B, ⟨S, [], []⟩, Tl, rfl, ⟨addC_own h3 0, hS.same s3, ho, hL, hM⟩, h3.lend _, s3 _ _ ht, hF, fun H3 p h4 => ?_⟩
      exact k H3 p m1 m2 (h3.back h4)
end
end Hs
end
section
set_option Elab.async false
set_option linter.all false
set_option maxRecDepth 100000
set_option maxHeartbeats 4000000
namespace Hs
open PySem PySem.Spec PyProof.Rows L2
open Kp123 (Setup Abs at_)
open Kp123Neutral (Box What Done S step asked1 fair opens natural eight told1 setupOf nats)
/-! ### what is asked of a call -/
theorem nat_of {z : Int} {n : Nat} (h : natural z n = true) : 0 ≤ z ∧ z < 2 ^ n := by
  unfold Kp123Neutral.natural at h
  simpa using h
theorem nats_len {l : List Int} : (nats l).length = l.length := by unfold Kp123Neutral.nats; rw [List.length_map]
theorem cI_nats {l : List Int} (h : ∀ z ∈ l, 0 ≤ z) : cI (nats l) = l := by
  unfold cI Kp123Neutral.nats
  rw [List.map_map]
  conv => rhs; rw [← List.map_id l]
  refine List.map_congr_left fun z hz => ?_
  have := h z hz
  show ((z.toNat : Nat) : Int) = z
  omega
theorem eight_of {n : Nat} {l : List Int} (h : eight n l = true) : l.length = 8 ∧ ∀ z ∈ l, 0 ≤ z ∧ z < 2 ^ n := by
  unfold Kp123Neutral.eight at h
  rw [Bool.and_eq_true, decide_eq_true_eq, List.all_eq_true] at h
  exact ⟨h.1, fun z hz => nat_of (h.2 z hz)⟩
theorem told1_of {l : List Int} (h : told1 l = true) : l.length ≤ 20000 := by
  unfold Kp123Neutral.told1 at h
  rw [Bool.and_eq_true, decide_eq_true_eq] at h
  exact h.1
theorem fairB_of {b : Box} {x : What} {t : List Int} (hl : t.length ≤ 20000)
    (h : (decide (b.set.kinds + b.set.kinds + b.set.slots ≤ t.length) && ((t.take (b.set.kinds + b.set.kinds + b.set.slots)).all (fun z => natural z 64) && ((t.drop (b.set.kinds + b.set.kinds + b.set.slots)).all (fun z => natural z 1) && (Kp123Neutral.sound b (Kp123Neutral.reads b.set t).1 && decide ((Kp123Neutral.played b x t).left = some []))))) = true) : FairB b x t := by
  simp only [Bool.and_eq_true, decide_eq_true_eq] at h
  obtain ⟨h1, h2, h3, h4, h5⟩ := h
  rw [List.all_eq_true] at h2
  exact ⟨⟨h1, fun z hz => (nat_of (h2 z hz)).1⟩, h4, h5, hl⟩
/-! ### the machine's cells -/
def suC (A : Ad) (su : Addr) (S : Setup) (B : SuA) : Cells := [(su, .ins A.cSetup B.dx (suFS S B)), (B.v, .lst ((cI S.value).map V.int)), (B.t, .lst ((cI S.tube).map V.int)), (B.p, .lst ((cI S.price).map V.int)), (B.q, .lst ((cI S.stock).map V.int)), (B.i, .lst ((cI S.in0).map V.int)), (B.o, .lst ((cI S.out0).map V.int)), (B.f, .lst ((cI S.fell0).map V.int))]
def MC (A : Ad) (m dm : Addr) : S → Cells → Prop
  | none, rs => ∃ y l1 l2, rs = [(m, maO A.cMachine dm y l1 l2)]
  | some b, rs => ∃ su B l1 l2, SOk b.set ∧ Lens b.set ∧ Sml b.set ∧ rs = (m, maO A.cMachine dm (.ref su) l1 l2) :: (maC b l1 l2 ++ suC A su b.set B)
theorem MC.split {A : Ad} {m dm : Addr} {s : S} {mc : Cells} (h : MC A m dm s mc) : ∃ y l1 l2 rs, mc = (m, maO A.cMachine dm y l1 l2) :: rs := by
  cases s with
  | none =>
    obtain ⟨y, l1, l2, e⟩ := h
    exact ⟨y, l1, l2, [], e⟩
  | some b =>
    obtain ⟨su, B, l1, l2, _, _, _, e⟩ := h
    exact ⟨_, l1, l2, _, e⟩
section
variable {P : Program} {w : World} {K : PySem.W.Frag} {mg : Str → Option Value} {base : Heap} {a : Ad}
theorem sq_addC {G H : Hp} {cs ds : Cells} (h : Sep G H (cs ++ ds)) {n0 : Addr} {xs : List V} (hn : SqL K G n0 xs) : SqL K (addC G ds) n0 xs := (addC_same h).seq hn
theorem read_numC {R : Addr} {H G : Hp} {rd drd n0 : Addr} {pos : Nat} {cs : Cells} {ns : List Int} {z : Int} {rest : List Int} {Q : V → Hp → Prop} {E : XK} {σ : L2.St}
    (h : Sep G H (cs ++ [(rd, reO R drd n0 pos)])) (hn : SqL K G n0 (ns.map V.int)) (hd : ns.drop pos = z :: rest)
    (k : ∀ H', Sep G H' (cs ++ [(rd, reO R drd n0 (pos + 1))]) → Q (.int z) H') : tNil σ H fun vs H2 => sp_number R K (V.ref rd :: (vs ++ [])) H2 Q E := by
  have h1 : Sep G H ([(rd, reO R drd n0 pos)] ++ cs) := h.perm List.perm_append_comm
  exact ⟨addC G cs, rd, drd, n0, pos, ns, z, rest, rfl, h1.lend _, sq_addC h1 hn, hd, fun H' h' => k H' ((h1.back h').perm List.perm_append_comm)⟩
theorem read_rowC {R : Addr} {H G : Hp} {rd drd n0 : Addr} {pos : Nat} {cs : Cells} {ns ys rest : List Int} {Q : V → Hp → Prop} {E : XK} {σ : L2.St}
    (h : Sep G H (cs ++ [(rd, reO R drd n0 pos)])) (hn : SqL K G n0 (ns.map V.int)) (hd : ns.drop pos = (ys.length : Int) :: (ys ++ rest))
    (k : ∀ H' p pos', Sep G H' (((p, .lst (ys.map V.int)) :: cs) ++ [(rd, reO R drd n0 pos')]) → ns.drop pos' = rest → Q (.ref p) H') : tNil σ H fun vs H2 => sp_row R K (V.ref rd :: (vs ++ [])) H2 Q E := by
  have h1 : Sep G H ([(rd, reO R drd n0 pos)] ++ cs) := h.perm List.perm_append_comm
  refine ⟨addC G cs, rd, drd, n0, pos, ns, ys, rest, rfl, h1.lend _, sq_addC h1 hn, hd, fun H' p pos' h' hp => k H' p pos' ((h1.back h').perm ?_) hp⟩
  exact .cons _ (List.perm_append_comm (l₁ := [(rd, _)]))
/-- the cells of a machine that was started, around a call -/
def othC (A : Ad) (told : Addr) (o : HO) (m : Addr) (mo : HO) (su : Addr) (S : Setup) (B : SuA) (rd : Addr) (ro : HO) : Cells := (told, o) :: (m, mo) :: (suC A su S B ++ [(rd, ro)])
theorem split_mc {A : Ad} {G H : Hp} {told : Addr} {o : HO} {m : Addr} {mo : HO} {su : Addr} {b : Box} {B : SuA} {rd : Addr} {ro : HO} {l1 l2 : Addr}
    (h : Sep G H (((told, o) :: ((m, mo) :: (maC b l1 l2 ++ suC A su b.set B))) ++ [(rd, ro)])) : Sep G H (maC b l1 l2 ++ othC A told o m mo su b.set B rd ro) :=
  h.sel [2, 3, 0, 1, 4, 5, 6, 7, 8, 9, 10, 11, 12] (by decide) rfl
theorem join_mc {A : Ad} {G H : Hp} {p : Addr} {po : HO} {told : Addr} {o : HO} {m : Addr} {mo : HO} {su : Addr} {b : Box} {S : Setup} {B : SuA} {rd : Addr} {ro : HO} {l1 l2 : Addr}
    (h : Sep G H (((p, po) :: maC b l1 l2) ++ othC A told o m mo su S B rd ro)) : Sep G H ((p, po) :: (((m, mo) :: (maC b l1 l2 ++ suC A su S B)) ++ [(rd, ro)])) :=
  h.sel [0, 4, 1, 2, 5, 6, 7, 8, 9, 10, 11, 12, 13] (by decide) rfl
theorem maOk_oth {A : Ad} {G H : Hp} {told : Addr} {o : HO} {m dm su : Addr} {b : Box} {B : SuA} {rd : Addr} {ro : HO} {l1 l2 : Addr} {cs : Cells}
    (h : Sep G H (cs ++ othC A told o m (maO A.cMachine dm (.ref su) l1 l2) su b.set B rd ro)) (ho : SOk b.set) (hL : Lens b.set) (hM : Sml b.set) : MaOk A (addC G (othC A told o m (maO A.cMachine dm (.ref su) l1 l2) su b.set B rd ro)) m dm su l1 l2 B b :=
  ⟨addC_own h 1, ⟨addC_own h 2, addC_own h 3, addC_own h 4, addC_own h 5, addC_own h 6, addC_own h 7, addC_own h 8, addC_own h 9⟩, ho, hL, hM⟩
theorem perm_out {α : Type} (Z rs : List α) (m r : α) : ((Z ++ (m :: rs)) ++ [r]).Perm ([m] ++ ((Z ++ rs) ++ [r])) := List.Perm.append_right [r] List.perm_middle
/-! ### answer_call -/
def sp_answer_call (A : Ad) (K : PySem.W.Frag) : Sp := fun vs H Q _ => ∃ (G : Hp) (m dm rd drd n0 : Addr) (pos : Nat) (ns : List Int) (s : S) (mc : Cells) (c : List (List Int)) (rest : List Int), vs = [.ref m, .ref rd] ∧ MC A m dm s mc ∧ Sep G H (mc ++ [(rd, reO A.cReader drd n0 pos)]) ∧ SqL K G n0 (ns.map V.int) ∧
  Next (ns.drop pos) c rest ∧ asked1 c = true ∧ (s.isSome || opens c) = true ∧ fair s c = true ∧
  ∀ (H' : Hp) (p : Addr) (mc' : Cells) (pos' : Nat), MC A m dm (step s c).1 mc' → Sep G H' ((p, .lst ((step s c).2.map V.int)) :: (mc' ++ [(rd, reO A.cReader drd n0 pos')])) → ns.drop pos' = rest → Q (.ref p) H'
theorem sc_answer_call : FnScope ["machine", "reader", "call", "setup", "slot"] ["machine", "reader"] (defScope s_answer_call) := ⟨rfl, rfl, rfl, by decide +kernel, rfl, by decide +kernel, by decide +kernel⟩
theorem ok_answer_call (T : Txt K mg a) : FnOk P w K mg base CX0 9 a.f_answer_call a.d_answer_call ["machine", "reader"] (sp_answer_call a K) := by
  refine T.F_answer_call.ok sc_answer_call (fun vs H Q E h => ?_) (fun cdv A outer s H vs Q E hr h => ?_)
  · obtain ⟨G, m, dm, rd, drd, n0, pos, ns, s, mc, c, rest, rfl, _⟩ := h
    rfl
  · obtain ⟨G, m, dm, rd, drd, n0, pos, ns, s, mc, c, rest, rfl, hMC, h0, hn, hN, hA, hO, hF, k⟩ := h
    have nd := sc_answer_call.nd
    have hr1 : Room 1 _ := hr.mono (by decide)
    have hr2 : Room 2 _ := hr.mono (by decide)
    have hr4 : Room 4 _ := hr.mono (by decide)
    have hr7 : Room 7 _ := hr.mono (by decide)
    refine ⟨_, pss_cons (ps_set (i := 2) nd rfl (Or.inl rfl) (pe_meth0 (pv 1) T.cl_Reader T.me_Reader_number (ok_number T) hr1 T.b_Reader_number .nil pass0))
      (pss_cons (ps_if (pt_cmpR op_eq (pv 2) (pe_gI T.g_START) (nomark _)) (pss_cons (ps_set (i := 3) nd rfl (Or.inl rfl) (pe_make T.mk_Setup (ok_Setup_init T) hr4 rfl T.mg_Setup T.b_Setup_init .nil pass0 (pa_cons (pv 1) pa_nil)))
        (pss_one (ps_ret (pe_call (ok_start T) hr rfl T.mg_start T.F_start.kp T.b_start .nil pass0 (pa_cons (pv 0) (pa_cons (pv 3) (pa_cons (pe_meth0 (pv 1) T.cl_Reader T.me_Reader_row (ok_row T) hr2 T.b_Reader_row .nil pass0) pa_nil))))))) pss_nil)
      (pss_cons (ps_if (pt_cmpR op_eq (pv 2) (pe_gI T.g_PRESS) (nomark _)) (pss_cons (ps_set (i := 4) nd rfl (Or.inl rfl) (pe_meth0 (pv 1) T.cl_Reader T.me_Reader_number (ok_number T) hr1 T.b_Reader_number .nil pass0))
        (pss_one (ps_ret (pe_call (ok_press T) hr rfl T.mg_press T.F_press.kp T.b_press .nil pass0 (pa_cons (pv 0) (pa_cons (pv 4) (pa_cons (pe_meth0 (pv 1) T.cl_Reader T.me_Reader_row (ok_row T) hr2 T.b_Reader_row .nil pass0) pa_nil))))))) pss_nil)
      (pss_cons (ps_if (pt_cmpR op_eq (pv 2) (pe_gI T.g_CANCEL) (nomark _)) (pss_one (ps_ret (pe_call (ok_cancel T) hr7 rfl T.mg_cancel T.F_cancel.kp T.b_cancel .nil pass0 (pa_cons (pv 0) (pa_cons (pe_meth0 (pv 1) T.cl_Reader T.me_Reader_row (ok_row T) hr2 T.b_Reader_row .nil pass0) pa_nil))))) pss_nil)
      (pss_one (ps_ret (pe_call (ok_tick T) hr7 rfl T.mg_tick T.F_tick.kp T.b_tick .nil pass0 (pa_cons (pv 0) (pa_cons (pe_meth0 (pv 1) T.cl_Reader T.me_Reader_row (ok_row T) hr2 T.b_Reader_row .nil pass0) pa_nil)))))))), ?_⟩
    have hrd : ∀ {H' : Hp} {cs : Cells} {p : Nat}, Sep G H' (cs ++ [(rd, reO a.cReader drd n0 p)]) → H' rd = some (reO a.cReader drd n0 p) := fun h => (h.own (rd, _) (List.mem_append_right _ (List.mem_singleton.mpr rfl))).2
    generalize hns : ns.drop pos = l at hN
    cases hN with
    | tick =>
      rename_i t
      refine ⟨_, rfl, rd, drd, _, rfl, hrd h0, reM_number, ?_⟩
      refine read_numC h0 hn hns fun H1 h1 => ?_
      have hd1 := (drop_get hns).2
      refine ⟨_, rfl, rfl, _, rfl, ?_⟩
      refine iteF ?_
      refine ⟨_, rfl, rfl, _, rfl, ?_⟩
      refine iteF ?_
      refine ⟨_, rfl, rfl, _, rfl, ?_⟩
      refine iteF ?_
      refine ⟨_, rfl, _, rfl, rd, drd, _, rfl, hrd h1, reM_row, ?_⟩
      refine read_rowC h1 hn hd1 fun H2 told pos2 h2 hd2 => ?_
      cases s with
      | none => cases hO
      | some b =>
        obtain ⟨su, B, l1, l2, ho, hL, hM, rfl⟩ := hMC
        have h3 := split_mc h2
        have hFB : FairB b .tick t := fairB_of (told1_of hA) hF
        refine ⟨_, m, dm, su, l1, l2, told, B, b, t, rfl, maOk_oth h3 ho hL hM, h3.lend _, addC_own h3 0, hFB, fun H3 p h4 => ?_⟩
        exact k H3 p _ pos2 ⟨su, B, l1, l2, ho, hL, hM, rfl⟩ (join_mc (h3.back h4)) hd2
    | cancel =>
      rename_i t
      refine ⟨_, rfl, rd, drd, _, rfl, hrd h0, reM_number, ?_⟩
      refine read_numC h0 hn hns fun H1 h1 => ?_
      have hd1 := (drop_get hns).2
      refine ⟨_, rfl, rfl, _, rfl, ?_⟩
      refine iteF ?_
      refine ⟨_, rfl, rfl, _, rfl, ?_⟩
      refine iteF ?_
      refine ⟨_, rfl, rfl, _, rfl, ?_⟩
      refine iteT ?_
      refine ⟨_, rfl, _, rfl, rd, drd, _, rfl, hrd h1, reM_row, ?_⟩
      refine read_rowC h1 hn hd1 fun H2 told pos2 h2 hd2 => ?_
      cases s with
      | none => cases hO
      | some b =>
        obtain ⟨su, B, l1, l2, ho, hL, hM, rfl⟩ := hMC
        have h3 := split_mc h2
        have hFB : FairB b .cancel t := fairB_of (told1_of hA) hF
        refine ⟨_, m, dm, su, l1, l2, told, B, b, t, rfl, maOk_oth h3 ho hL hM, h3.lend _, addC_own h3 0, hFB, fun H3 p h4 => ?_⟩
        exact k H3 p _ pos2 ⟨su, B, l1, l2, ho, hL, hM, rfl⟩ (join_mc (h3.back h4)) hd2
    | press =>
      rename_i sI t
      have hA' : (natural sI 32 && told1 t) = true := hA
      rw [Bool.and_eq_true] at hA'
      obtain ⟨z0, z1⟩ := nat_of hA'.1
      refine ⟨_, rfl, rd, drd, _, rfl, hrd h0, reM_number, ?_⟩
      refine read_numC h0 hn hns fun H1 h1 => ?_
      have hd1 := (drop_get hns).2
      refine ⟨_, rfl, rfl, _, rfl, ?_⟩
      refine iteF ?_
      refine ⟨_, rfl, rfl, _, rfl, ?_⟩
      refine iteT ?_
      refine ⟨_, rfl, rd, drd, _, rfl, hrd h1, reM_number, ?_⟩
      refine read_numC h1 hn hd1 fun H2 h2 => ?_
      have hd2 := (drop_get hd1).2
      refine ⟨_, rfl, _, rfl, _, rfl, rd, drd, _, rfl, hrd h2, reM_row, ?_⟩
      refine read_rowC h2 hn hd2 fun H3 told pos3 h3 hd3 => ?_
      cases s with
      | none => cases hO
      | some b =>
        obtain ⟨su, B, l1, l2, ho, hL, hM, rfl⟩ := hMC
        have h4 := split_mc h3
        refine ⟨_, m, dm, su, l1, l2, told, B, b, t, sI.toNat, ?_, maOk_oth h4 ho hL hM, h4.lend _, fun hlt => ?_, fun hlt H5 p h5 => ?_⟩
        · show [V.ref m, V.int sI, V.ref told] = [V.ref m, V.int ((sI.toNat : Nat) : Int), V.ref told]
          rw [Int.toNat_of_nonneg z0]
        · have hbox : Kp123Neutral.box (some b) (.press sI.toNat) = some b := if_pos hlt
          have hF' : (match Kp123Neutral.box (some b) (.press sI.toNat) with
            | none => t.isEmpty
            | some b =>
              (decide (b.set.kinds + b.set.kinds + b.set.slots ≤ t.length) && ((t.take (b.set.kinds + b.set.kinds + b.set.slots)).all (fun z => natural z 64) && ((t.drop (b.set.kinds + b.set.kinds + b.set.slots)).all (fun z => natural z 1) && (Kp123Neutral.sound b (Kp123Neutral.reads b.set t).1 && decide ((Kp123Neutral.played b (.press sI.toNat) t).left = some [])))))) = true := hF
          rw [hbox] at hF'
          have hst : step (some b) [[1, sI], t] = (some (boxOf b (.press sI.toNat) t), ansOf b (.press sI.toNat) t) := by
            show (match Kp123Neutral.box (some b) (.press sI.toNat) with
              | none => (some b, [-22, 0])
              | some b => (some (boxOf b (.press sI.toNat) t), ansOf b (.press sI.toNat) t)) = _
            rw [hbox]
          refine ⟨addC_own h4 0, fairB_of (told1_of hA'.2) hF', fun H5 p h5 => ?_⟩
          rw [hst] at k
          exact k H5 p _ pos3 ⟨su, B, l1, l2, ho, hL, hM, rfl⟩ (join_mc (h4.back h5)) hd3
        · have hbox : Kp123Neutral.box (some b) (.press sI.toNat) = none := if_neg hlt
          have hst : step (some b) [[1, sI], t] = (some b, [-22, 0]) := by
            show (match Kp123Neutral.box (some b) (.press sI.toNat) with
              | none => (some b, [-22, 0])
              | some b => (some (boxOf b (.press sI.toNat) t), ansOf b (.press sI.toNat) t)) = _
            rw [hbox]
          rw [hst] at k
          exact k H5 p _ pos3 ⟨su, B, l1, l2, ho, hL, hM, rfl⟩ (join_mc (h4.back h5)) hd3
    | start =>
      rename_i c0 s0 m0 z0 v t p q i o f wt
      have hA' : (natural c0 32 && (natural s0 32 && (natural m0 32 && (natural z0 32 && (eight 32 v && (eight 32 t && (eight 32 p && (eight 32 q && (eight 64 i && (eight 64 o && (eight 64 f && told1 wt))))))))))) = true := hA
      simp only [Bool.and_eq_true] at hA'
      obtain ⟨a1, a2, a3, a4, a5, a6, a7, a8, a9, a10, a11, a12⟩ := hA'
      obtain ⟨cn, rfl⟩ := Int.eq_ofNat_of_zero_le (nat_of a1).1
      obtain ⟨sn, rfl⟩ := Int.eq_ofNat_of_zero_le (nat_of a2).1
      obtain ⟨mn, rfl⟩ := Int.eq_ofNat_of_zero_le (nat_of a3).1
      obtain ⟨zn, rfl⟩ := Int.eq_ofNat_of_zero_le (nat_of a4).1
      have a5 := eight_of a5
      have a6 := eight_of a6
      have a7 := eight_of a7
      have a8 := eight_of a8
      have a9 := eight_of a9
      have a10 := eight_of a10
      have a11 := eight_of a11
      obtain ⟨SS, hSS⟩ : ∃ SS : Setup, SS = setupOf (cn : Int) (sn : Int) (mn : Int) (zn : Int) v t p q i o f := ⟨_, rfl⟩
      have ev : cI SS.value = v := by rw [hSS]; exact cI_nats fun z hz => (a5.2 z hz).1
      have et : cI SS.tube = t := by rw [hSS]; exact cI_nats fun z hz => (a6.2 z hz).1
      have ep : cI SS.price = p := by rw [hSS]; exact cI_nats fun z hz => (a7.2 z hz).1
      have eq : cI SS.stock = q := by rw [hSS]; exact cI_nats fun z hz => (a8.2 z hz).1
      have ei : cI SS.in0 = i := by rw [hSS]; exact cI_nats fun z hz => (a9.2 z hz).1
      have eo : cI SS.out0 = o := by rw [hSS]; exact cI_nats fun z hz => (a10.2 z hz).1
      have ef : cI SS.fell0 = f := by rw [hSS]; exact cI_nats fun z hz => (a11.2 z hz).1
      have hL : Lens SS := by
        rw [hSS]
        exact ⟨nats_len.trans a5.1, nats_len.trans a6.1, nats_len.trans a7.1, nats_len.trans a8.1, nats_len.trans a9.1, nats_len.trans a10.1, nats_len.trans a11.1⟩
      have hM : Sml SS := by
        rw [hSS]
        refine ⟨fun y hy => ?_, fun y hy => ?_⟩
        · obtain ⟨z, hz, e⟩ := List.mem_map.mp hy
          have := (a5.2 z hz).2
          rw [← e]
          omega
        · obtain ⟨z, hz, e⟩ := List.mem_map.mp hy
          have := (a7.2 z hz).2
          rw [← e]
          omega
      have e4 : vN SS.kinds = V.int (cn : Int) ∧ vN SS.slots = V.int (sn : Int) ∧ vN SS.most = V.int (mn : Int) ∧ vN SS.none_ = V.int (zn : Int) := by
        rw [hSS]
        exact ⟨rfl, rfl, rfl, rfl⟩
      refine ⟨_, rfl, rd, drd, _, rfl, hrd h0, reM_number, ?_⟩
      refine read_numC h0 hn hns fun H1 h1 => ?_
      have hd1 := (drop_get hns).2
      refine ⟨_, rfl, rfl, _, rfl, ?_⟩
      refine iteT ?_
      obtain ⟨y, l1, l2, rs, hmc⟩ := hMC.split
      subst hmc
      refine ⟨_, rfl, ?_⟩
      intro x dx hx hdx hne
      have h2 : Sep G (upd (upd H1 dx (.own x)) x (.ins a.cSetup dx [])) ([(x, .ins a.cSetup dx []), (rd, reO a.cReader drd n0 (pos + 1))] ++ ((m, maO a.cMachine dm y l1 l2) :: rs)) :=
        ((h1.ext (same_new (o := HO.own x) hdx)).new (p := x) (o := .ins a.cSetup dx []) (by rw [upd_ne (Ne.symm hne)]; exact hx)).perm (.cons _ List.perm_append_comm)
      refine ⟨addC G ((m, maO a.cMachine dm y l1 l2) :: rs), x, dx, rd, drd, n0, pos + 1, ns, _, _, _, _, v, t, p, q, i, o, f, _, rfl, h2.lend _, sq_addC h2 hn, hd1, fun H3 av at' ap aq ai ao af pos3 h3 hd3 => ⟨rfl, ?_⟩⟩
      have h4 := h2.back h3
      have h5 : Sep G H3 (((x, .ins a.cSetup dx (suF (.int (cn : Int)) (.int (sn : Int)) (.int (mn : Int)) (.int (zn : Int)) (.ref av) (.ref at') (.ref ap) (.ref aq) (.ref ai) (.ref ao) (.ref af))) ::
        ([(af, .lst (f.map V.int)), (ao, .lst (o.map V.int)), (ai, .lst (i.map V.int)), (aq, .lst (q.map V.int)), (ap, .lst (p.map V.int)), (at', .lst (t.map V.int)), (av, .lst (v.map V.int))] ++ ((m, maO a.cMachine dm y l1 l2) :: rs))) ++ [(rd, reO a.cReader drd n0 pos3)]) :=
        h4.perm (.cons _ (List.perm_append_comm (l₁ := [(rd, _)])))
      refine ⟨_, rfl, _, rfl, _, rfl, rd, drd, _, rfl, hrd h5, reM_row, ?_⟩
      refine read_rowC h5 hn hd3 fun H6 told pos6 h6 hd6 => ?_
      have h7 : Sep G H6 ([(m, maO a.cMachine dm y l1 l2)] ++ (([(told, .lst (wt.map V.int)), (x, .ins a.cSetup dx (suF (.int (cn : Int)) (.int (sn : Int)) (.int (mn : Int)) (.int (zn : Int)) (.ref av) (.ref at') (.ref ap) (.ref aq) (.ref ai) (.ref ao) (.ref af))),
        (af, .lst (f.map V.int)), (ao, .lst (o.map V.int)), (ai, .lst (i.map V.int)), (aq, .lst (q.map V.int)), (ap, .lst (p.map V.int)), (at', .lst (t.map V.int)), (av, .lst (v.map V.int))] ++ rs) ++ [(rd, reO a.cReader drd n0 pos6)])) :=
        h6.perm (perm_out [(told, HO.lst (wt.map V.int)), (x, HO.ins a.cSetup dx (suF (.int (cn : Int)) (.int (sn : Int)) (.int (mn : Int)) (.int (zn : Int)) (.ref av) (.ref at') (.ref ap) (.ref aq) (.ref ai) (.ref ao) (.ref af))),
          (af, HO.lst (f.map V.int)), (ao, HO.lst (o.map V.int)), (ai, HO.lst (i.map V.int)), (aq, HO.lst (q.map V.int)), (ap, HO.lst (p.map V.int)), (at', HO.lst (t.map V.int)), (av, HO.lst (v.map V.int))] rs _ _)
      have eF : suFS SS ⟨dx, av, at', ap, aq, ai, ao, af⟩ = suF (.int (cn : Int)) (.int (sn : Int)) (.int (mn : Int)) (.int (zn : Int)) (.ref av) (.ref at') (.ref ap) (.ref aq) (.ref ai) (.ref ao) (.ref af) := by
        unfold suFS
        rw [e4.1, e4.2.1, e4.2.2.1, e4.2.2.2]
      have hfr := h7.lend _
      refine ⟨_, m, dm, y, l1, l2, x, told, ⟨dx, av, at', ap, aq, ai, ao, af⟩, SS, wt, rfl, h7.lend _, ⟨?_, ?_, ?_, ?_, ?_, ?_, ?_, ?_⟩, hL, hM, fun hg => ?_, fun hg H8 pa h8 => ?_⟩
      · rw [eF]; exact addC_own h7 1
      · rw [ev]; exact addC_own h7 8
      · rw [et]; exact addC_own h7 7
      · rw [ep]; exact addC_own h7 6
      · rw [eq]; exact addC_own h7 5
      · rw [ei]; exact addC_own h7 4
      · rw [eo]; exact addC_own h7 3
      · rw [ef]; exact addC_own h7 2
      · have hbox : Kp123Neutral.box s (.begin_ SS) = some ⟨SS, [], []⟩ := if_pos hg
        have hF' : (match Kp123Neutral.box s (.begin_ (setupOf (cn : Int) (sn : Int) (mn : Int) (zn : Int) v t p q i o f)) with
          | none => wt.isEmpty
          | some b =>
            (decide (b.set.kinds + b.set.kinds + b.set.slots ≤ wt.length) && ((wt.take (b.set.kinds + b.set.kinds + b.set.slots)).all (fun z => natural z 64) && ((wt.drop (b.set.kinds + b.set.kinds + b.set.slots)).all (fun z => natural z 1) && (Kp123Neutral.sound b (Kp123Neutral.reads b.set wt).1 && decide ((Kp123Neutral.played b .cancel wt).left = some [])))))) = true := hF
        rw [← hSS, hbox] at hF'
        have hst : step s [[0, (cn : Int), (sn : Int), (mn : Int), (zn : Int)], v, t, p, q, i, o, f, wt] = (some (boxOf ⟨SS, [], []⟩ .cancel wt), ansOf ⟨SS, [], []⟩ .cancel wt) := by
          show (match Kp123Neutral.box s (.begin_ (setupOf (cn : Int) (sn : Int) (mn : Int) (zn : Int) v t p q i o f)) with
            | none => (s, [-22, 0])
            | some b => (some (boxOf b .cancel wt), ansOf b .cancel wt)) = _
          rw [← hSS, hbox]
        refine ⟨addC_own h7 0, fairB_of (told1_of a12) hF', fun H8 pa m1 m2 h8 => ?_⟩
        have h9 := h7.back h8
        have h10 := h9.pick (List.Sublist.append (List.Sublist.refl _) (List.Sublist.append (List.sublist_append_left _ rs) (List.Sublist.refl _)))
        have eC : suC a x SS ⟨dx, av, at', ap, aq, ai, ao, af⟩ = [(x, .ins a.cSetup dx (suF (.int (cn : Int)) (.int (sn : Int)) (.int (mn : Int)) (.int (zn : Int)) (.ref av) (.ref at') (.ref ap) (.ref aq) (.ref ai) (.ref ao) (.ref af))), (av, .lst (v.map V.int)), (at', .lst (t.map V.int)), (ap, .lst (p.map V.int)), (aq, .lst (q.map V.int)), (ai, .lst (i.map V.int)), (ao, .lst (o.map V.int)), (af, .lst (f.map V.int))] := by
          unfold suC
          rw [ev, et, ep, eq, ei, eo, ef, eF]
        rw [hst] at k
        refine k H8 pa ((m, maO a.cMachine dm (.ref x) m1 m2) :: (maC (boxOf ⟨SS, [], []⟩ .cancel wt) m1 m2 ++ suC a x SS ⟨dx, av, at', ap, aq, ai, ao, af⟩)) pos6 ⟨x, ⟨dx, av, at', ap, aq, ai, ao, af⟩, m1, m2, good_ok hL hg, hL, hM, rfl⟩ ?_ hd6
        rw [eC]
        exact h10.sel [0, 3, 1, 2, 5, 12, 11, 10, 9, 8, 7, 6, 13] (by decide) rfl
      · have hbox : Kp123Neutral.box s (.begin_ SS) = none := if_neg (by rw [hg]; decide)
        have hst : step s [[0, (cn : Int), (sn : Int), (mn : Int), (zn : Int)], v, t, p, q, i, o, f, wt] = (s, [-22, 0]) := by
          show (match Kp123Neutral.box s (.begin_ (setupOf (cn : Int) (sn : Int) (mn : Int) (zn : Int) v t p q i o f)) with
            | none => (s, [-22, 0])
            | some b => (some (boxOf b .cancel wt), ansOf b .cancel wt)) = _
          rw [← hSS, hbox]
        have h9 := h7.back h8
        have h10 := h9.pick (List.Sublist.append (List.Sublist.refl _) (List.Sublist.append (List.sublist_append_right _ rs) (List.Sublist.refl _)))
        rw [hst] at k
        exact k H8 pa _ pos6 hMC h10 hd6
end
end Hs
end
section
set_option Elab.async false
set_option linter.all false
set_option maxRecDepth 100000
set_option maxHeartbeats 4000000
namespace Hs
open PySem PySem.Spec PyProof.Rows L2
open Kp123 (Setup Abs at_)
open Kp123Neutral (Box What Done S step asked1 fair opens natural eight told1 setupOf nats)
theorem played_eq : ∀ (cs : List (List (List Int))) (s : S), PyFlat.played step s cs = Kp123Neutral.answers s cs
  | [], _ => rfl
  | c :: cs, s => by
    show (step s c).2 :: PyFlat.played step (step s c).1 cs = (step s c).2 :: Kp123Neutral.answers (step s c).1 cs
    rw [played_eq cs]
theorem answers_len : ∀ (cs : List (List (List Int))) (s : S), (Kp123Neutral.answers s cs).length = cs.length
  | [], _ => rfl
  | c :: cs, s => by
    show (Kp123Neutral.answers (step s c).1 cs).length + 1 = cs.length + 1
    rw [answers_len cs]
theorem told_len : ∀ (l : List (List Int)) (n : Nat), (PyFlat.told l).length + n = l.foldl (fun (n : Nat) (r : List Int) => n + r.length) n + l.length
  | [], n => by
    show 0 + n = n + 0
    omega
  | x :: l, n => by
    have e : PyFlat.told (x :: l) = ((x.length : Int) :: x) ++ PyFlat.told l := rfl
    have ih := told_len l (n + x.length)
    rw [e, List.length_append, List.foldl_cons]
    show x.length + 1 + (PyFlat.told l).length + n = _ + (l.length + 1)
    omega
theorem told_cons (x : List Int) (l : List (List Int)) : PyFlat.told (x :: l) = ((x.length : Int) :: x) ++ PyFlat.told l := rfl
section
variable {P : Program} {w : World} {K : PySem.W.Frag} {mg : Str → Option Value} {base : Heap} {a : Ad}
def sp_answers (K : PySem.W.Frag) : Sp := fun vs H Q _ => ∃ (n0 : Addr) (ns : List Int), vs = [.ref n0] ∧ SqL K H n0 (ns.map V.int) ∧ PyKp123.answers_asked ns = true ∧ ∀ (H' : Hp) (p : Addr), H' p = some (.lst ((PyKp123.answers ns).map V.int)) → Q (.ref p) H'
theorem sc_answers : FnScope ["calls", "reader", "machine", "result", "answer"] ["calls"] (defScope s_answers) := ⟨rfl, rfl, rfl, by decide +kernel, rfl, by decide +kernel, by decide +kernel⟩
theorem ok_answers (T : Txt K mg a) : FnOk P w K mg base CX0 10 a.f_answers a.d_answers ["calls"] (sp_answers K) := by
  refine T.F_answers.ok sc_answers (fun vs H Q E h => ?_) (fun cdv A outer s H vs Q E hr h => ?_)
  · obtain ⟨n0, ns, rfl, _⟩ := h
    rfl
  · obtain ⟨n0, ns, rfl, hn, hask, k⟩ := h
    have nd := sc_answers.nd
    have hr1 : Room 1 _ := hr.mono (by decide)
    have hr2 : Room 2 _ := hr.mono (by decide)
    refine ⟨_, pss_cons (ps_set (i := 1) nd rfl (Or.inl rfl) (pe_make T.mk_Reader (ok_Reader_init T) hr2 rfl T.mg_Reader T.b_Reader_init .nil pass0 (pa_cons (pv 0) pa_nil)))
      (pss_cons (ps_set (i := 2) nd rfl (Or.inl rfl) (pe_make0 T.mk_Machine (ok_Machine_init T) hr2 rfl T.mg_Machine T.b_Machine_init .nil pass0))
      (pss_cons (ps_set (i := 3) nd rfl (Or.inl rfl) (pe_lst pa_nil))
      (pss_cons (ps_while PassesOwn.never (pt_not (pt_truth (pe_meth0 (pv 1) T.cl_Reader T.me_Reader_at_end (ok_at_end T) hr1 T.b_Reader_at_end .nil pass0) (fun _ => rfl)))
        (pss_cons (ps_set (i := 4) nd rfl (Or.inl rfl) (pe_call (ok_answer_call T) hr rfl T.mg_answer_call T.F_answer_call.kp T.b_answer_call .nil pass0 (pa_cons (pv 2) (pa_cons (pv 1) pa_nil))))
        (pss_cons (ps_expr (pe_bm PySem.F.plainAttrs_list PySem.F.slot_list_append PySem.F.type_list_append mt_append (pv 3) (pa_cons (pe_callB call_len_seq (by rfl) T.n_len PySem.boot_len (pa_cons (pv 4) pa_nil)) pa_nil)))
        (pss_one (ps_expr (pe_bm PySem.F.plainAttrs_list PySem.F.slot_list_extend PySem.F.type_list_extend mt_extend (pv 3) (pa_cons (pv 4) pa_nil)))))))
      (pss_one (ps_ret (pv 3)))))), ?_⟩
    obtain ⟨cs0, hline, hc60, hfrom, htold, hans⟩ := asked_line hask
    have hs := szl
    have htot : (PyKp123.answers ns).length ≤ 1000100 := by
      have := told_len (PyFlat.played step Kp123Neutral.start cs0) 0
      rw [hans]
      have e1 : (PyFlat.played step Kp123Neutral.start cs0).length = cs0.length := by rw [played_eq, answers_len]
      have e2 : (PyFlat.played step Kp123Neutral.start cs0).foldl (fun (n : Nat) (r : List Int) => n + r.length) 0 < 1000000 := by rw [played_eq]; exact htold
      omega
    -- reader, machine, result
    refine ⟨_, rfl, ?_⟩
    intro rd drd hrd hdrd hne1
    have h0 : Sep H _ [(rd, .ins a.cReader drd [])] := ((Sep.start H).ext (same_new (o := HO.own rd) hdrd)).new (by rw [upd_ne (Ne.symm hne1)]; exact hrd)
    refine ⟨H, rd, drd, n0, rfl, h0, fun H1 h1 => ⟨rfl, ?_⟩⟩
    intro m dm hm hdm hne2
    have h2 : Sep H _ ([(m, .ins a.cMachine dm [])] ++ [(rd, reO a.cReader drd n0 0)]) := (h1.ext (same_new (o := HO.own m) hdm)).new (by rw [upd_ne (Ne.symm hne2)]; exact hm)
    refine ⟨addC H [(rd, reO a.cReader drd n0 0)], m, dm, rfl, h2.lend _, fun H2 l1 l2 h3 => ⟨rfl, ?_⟩⟩
    have h3 : Sep H H2 ([(m, maO a.cMachine dm .non l1 l2)] ++ [(rd, reO a.cReader drd n0 0)]) := (h2.back h3).sel [0, 3] (by decide) rfl
    refine ⟨Nat.zero_le _, fun res hres => ?_⟩
    have h4 := h3.new (o := .lst []) hres
    -- the loop
    refine ⟨fun n σ H' => ∃ (s : S) (mc : Cells) (pos : Nat) (cs : List (List (List Int))) (out : List Int) (v4 : Option V), σ = [some (.ref n0), some (.ref rd), some (.ref m), some (.ref res), v4] ∧ MC a m dm s mc ∧ Sep H H' ((res, .lst (out.map V.int)) :: (mc ++ [(rd, reO a.cReader drd n0 pos)])) ∧
      Line (ns.drop pos) cs ∧ Kp123Neutral.askedFrom s cs = true ∧ out ++ PyFlat.told (PyFlat.played step s cs) = PyKp123.answers ns ∧ n = cs.length,
      ⟨cs0.length, Kp123Neutral.start, _, 0, cs0, [], _, rfl, ⟨V.non, l1, l2, rfl⟩, h4, hline, hfrom, hans.symm, rfl⟩, ?_⟩
    rintro n σ H' ⟨s, mc, pos, cs, out, v4, rfl, hMC, hS, hLn, hAf, hout, rfl⟩
    have hrdH : H' rd = some (reO a.cReader drd n0 pos) := (hS.own (rd, _) (List.mem_cons_of_mem _ (List.mem_append_right _ (List.mem_singleton.mpr rfl)))).2
    refine ⟨_, rfl, rd, drd, _, rfl, hrdH, reM_at_end, rd, drd, n0, pos, ns, rfl, hrdH, hS.same.seq hn, _, rfl, ?_⟩
    generalize hl : ns.drop pos = l at hLn
    cases hLn with
    | nil =>
      have hle : ns.length ≤ pos := by
        have := congrArg List.length hl
        rw [List.length_drop] at this
        simp at this
        omega
      rw [decide_eq_true hle]
      refine iteF ?_
      refine ⟨_, rfl, k H' res ?_⟩
      have e : out = PyKp123.answers ns := by rw [← hout]; exact (List.append_nil _).symm
      rw [← e]
      exact hS.at 0
    | cons hN hrest =>
      rename_i c r cs
      have hlt : ¬ ns.length ≤ pos := fun q => by
        rw [List.drop_of_length_le q] at hl
        subst hl
        cases hN
      rw [decide_eq_false hlt]
      refine iteT ?_
      have hAf' : (asked1 c && ((s.isSome || opens c) && (fair s c && Kp123Neutral.askedFrom (step s c).1 cs))) = true := hAf
      rw [Bool.and_eq_true, Bool.and_eq_true, Bool.and_eq_true] at hAf'
      obtain ⟨f1, f2, f3, f4⟩ := hAf'
      have hout' : out ++ (((step s c).2.length : Int) :: (step s c).2) ++ PyFlat.told (PyFlat.played step (step s c).1 cs) = PyKp123.answers ns := by
        rw [← hout, List.append_assoc]
        rfl
      have hsz : out.length + (1 + (step s c).2.length) ≤ 1000100 := by
        have := congrArg List.length hout'
        rw [List.length_append, List.length_append, List.length_cons] at this
        omega
      refine ⟨fun σ' H2 => ∃ (s : S) (mc : Cells) (pos : Nat) (out : List Int) (v4 : Option V), σ' = [some (.ref n0), some (.ref rd), some (.ref m), some (.ref res), v4] ∧ MC a m dm s mc ∧ Sep H H2 ((res, .lst (out.map V.int)) :: (mc ++ [(rd, reO a.cReader drd n0 pos)])) ∧
        Line (ns.drop pos) cs ∧ Kp123Neutral.askedFrom s cs = true ∧ out ++ PyFlat.told (PyFlat.played step s cs) = PyKp123.answers ns, fun σ' H2 hN2 => ?_, ?_⟩
      · obtain ⟨s', mc', pos', out', v4', e1, e2, e3, e4, e5, e6⟩ := hN2
        exact ⟨cs.length, Nat.lt_succ_self _, s', mc', pos', cs, out', v4', e1, e2, e3, e4, e5, e6, rfl⟩
      have hS2 : Sep H H' ((mc ++ [(rd, reO a.cReader drd n0 pos)]) ++ [(res, .lst (out.map V.int))]) := hS.perm (List.perm_append_comm (l₁ := [(res, _)]))
      refine ⟨_, rfl, _, rfl, addC H [(res, .lst (out.map V.int))], m, dm, rd, drd, n0, pos, ns, s, mc, c, r, rfl, hMC, hS2.lend _, sq_addC hS2 hn, hl ▸ hN, f1, f2, f3, fun H3 p mc' pos' hMC' hS3 hd3 => ?_⟩
      have hS4 : Sep H H3 ((res, .lst (out.map V.int)) :: (p, .lst ((step s c).2.map V.int)) :: (mc' ++ [(rd, reO a.cReader drd n0 pos')])) := (hS2.back hS3).perm List.perm_append_comm
      refine ⟨_, rfl, .inl ⟨rfl, _, SqL.of (hS4.at 0)⟩, _, rfl, p, _, rfl, .inl (SqL.of (hS4.at 1)), res, _, _, rfl, rfl, hS4.at 0, ?_, ?_⟩
      · rw [List.length_map]; omega
      have hS5 := hS4.set 0 (.lst (out.map V.int ++ [V.int (((step s c).2.map V.int).length : Int)]))
      refine ⟨_, rfl, .inl ⟨rfl, _, SqL.of (hS5.at 0)⟩, _, rfl, res, p, _, _, rfl, rfl, hS5.at 0, hS5.at 1, ?_, ?_⟩
      · rw [List.length_append, List.length_map, List.length_map]
        show out.length + 1 + _ ≤ sizeLine
        omega
      have hS6 := hS5.set 0 (.lst ((out.map V.int ++ [V.int (((step s c).2.map V.int).length : Int)]) ++ (step s c).2.map V.int))
      have e1 : (out.map V.int ++ [V.int (((step s c).2.map V.int).length : Int)]) ++ (step s c).2.map V.int = (out ++ (((step s c).2.length : Int) :: (step s c).2)).map V.int := by
        rw [List.map_append, List.length_map, List.append_assoc]
        rfl
      rw [e1] at hS6
      refine ⟨(step s c).1, mc', pos', out ++ (((step s c).2.length : Int) :: (step s c).2), _, rfl, hMC', ?_, by rw [hd3]; exact hrest, f4, hout'⟩
      rw [e1]
      exact hS6.pick (.cons₂ _ (.cons _ (List.Sublist.refl _)))
end
end Hs
end
set_option maxRecDepth 100000
set_option maxHeartbeats 4000000
namespace Hs
open PySem PySem.Spec PyProof.Rows L2
theorem all_mk {K : PySem.W.Frag} {h : Heap} {mg : Str → Option Value} (X : K.In h) (G : h.Ns mainGlobals mg)
    {cSetup cAround cTurn cReader cMachine f_Setup_init f_Around_init f_Around_note f_Around_ask f_Around_counters f_Around_pay f_Around_drop f_Around_take f_Around_show f_Turn_init f_Turn_usable f_Turn_for_sale f_Turn_can_be_bought f_Turn_drop f_Turn_pay_coin f_Turn_pay_coins f_Turn_pay_back f_Turn_end f_Reader_init f_Reader_at_end f_Reader_number f_Reader_row f_Machine_init f_Machine_begin f_all_within f_is_as_told f_only_nothing f_holds f_greatest f_raised f_with_kind f_tails f_payable f_most_coins f_payment_back f_since f_worth f_bits f_refusal f_start f_press f_sell f_cancel f_tick f_answer_call f_answers : Addr}
    {od_Setup_init an_Setup_init od_Around_init an_Around_init od_Around_note an_Around_note od_Around_ask an_Around_ask od_Around_counters an_Around_counters od_Around_pay an_Around_pay od_Around_drop an_Around_drop od_Around_take an_Around_take od_Around_show an_Around_show od_Turn_init an_Turn_init od_Turn_usable an_Turn_usable od_Turn_for_sale an_Turn_for_sale od_Turn_can_be_bought an_Turn_can_be_bought od_Turn_drop an_Turn_drop od_Turn_pay_coin an_Turn_pay_coin od_Turn_pay_coins an_Turn_pay_coins od_Turn_pay_back an_Turn_pay_back od_Turn_end an_Turn_end od_Reader_init an_Reader_init od_Reader_at_end an_Reader_at_end od_Reader_number an_Reader_number od_Reader_row an_Reader_row od_Machine_init an_Machine_init od_Machine_begin an_Machine_begin od_all_within an_all_within od_is_as_told an_is_as_told od_only_nothing an_only_nothing od_holds an_holds od_greatest an_greatest od_raised an_raised od_with_kind an_with_kind od_tails an_tails od_payable an_payable od_most_coins an_most_coins od_payment_back an_payment_back od_since an_since od_worth an_worth od_bits an_bits od_refusal an_refusal od_start an_start od_press an_press od_sell an_sell od_cancel an_cancel od_tick an_tick od_answer_call an_answer_call od_answers an_answers : Option Addr}
    {sl_Setup_init sl_Around_init sl_Around_note sl_Around_ask sl_Around_counters sl_Around_pay sl_Around_drop sl_Around_take sl_Around_show sl_Turn_init sl_Turn_usable sl_Turn_for_sale sl_Turn_can_be_bought sl_Turn_drop sl_Turn_pay_coin sl_Turn_pay_coins sl_Turn_pay_back sl_Turn_end sl_Reader_init sl_Reader_at_end sl_Reader_number sl_Reader_row sl_Machine_init sl_Machine_begin sl_all_within sl_is_as_told sl_only_nothing sl_holds sl_greatest sl_raised sl_with_kind sl_tails sl_payable sl_most_coins sl_payment_back sl_since sl_worth sl_bits sl_refusal sl_start sl_press sl_sell sl_cancel sl_tick sl_answer_call sl_answers : Array (Option Value)}
    {oc_Setup_init kV_Setup_init dc_Setup_init pm_Setup_init cd_Setup_init ct_Setup_init oc_Around_init kV_Around_init dc_Around_init pm_Around_init cd_Around_init ct_Around_init oc_Around_note kV_Around_note dc_Around_note pm_Around_note cd_Around_note ct_Around_note oc_Around_ask kV_Around_ask dc_Around_ask pm_Around_ask cd_Around_ask ct_Around_ask oc_Around_counters kV_Around_counters dc_Around_counters pm_Around_counters cd_Around_counters ct_Around_counters oc_Around_pay kV_Around_pay dc_Around_pay pm_Around_pay cd_Around_pay ct_Around_pay oc_Around_drop kV_Around_drop dc_Around_drop pm_Around_drop cd_Around_drop ct_Around_drop oc_Around_take kV_Around_take dc_Around_take pm_Around_take cd_Around_take ct_Around_take oc_Around_show kV_Around_show dc_Around_show pm_Around_show cd_Around_show ct_Around_show oc_Turn_init kV_Turn_init dc_Turn_init pm_Turn_init cd_Turn_init ct_Turn_init oc_Turn_usable kV_Turn_usable dc_Turn_usable pm_Turn_usable cd_Turn_usable ct_Turn_usable oc_Turn_for_sale kV_Turn_for_sale dc_Turn_for_sale pm_Turn_for_sale cd_Turn_for_sale ct_Turn_for_sale oc_Turn_can_be_bought kV_Turn_can_be_bought dc_Turn_can_be_bought pm_Turn_can_be_bought cd_Turn_can_be_bought ct_Turn_can_be_bought oc_Turn_drop kV_Turn_drop dc_Turn_drop pm_Turn_drop cd_Turn_drop ct_Turn_drop oc_Turn_pay_coin kV_Turn_pay_coin dc_Turn_pay_coin pm_Turn_pay_coin cd_Turn_pay_coin ct_Turn_pay_coin oc_Turn_pay_coins kV_Turn_pay_coins dc_Turn_pay_coins pm_Turn_pay_coins cd_Turn_pay_coins ct_Turn_pay_coins oc_Turn_pay_back kV_Turn_pay_back dc_Turn_pay_back pm_Turn_pay_back cd_Turn_pay_back ct_Turn_pay_back oc_Turn_end kV_Turn_end dc_Turn_end pm_Turn_end cd_Turn_end ct_Turn_end oc_Reader_init kV_Reader_init dc_Reader_init pm_Reader_init cd_Reader_init ct_Reader_init oc_Reader_at_end kV_Reader_at_end dc_Reader_at_end pm_Reader_at_end cd_Reader_at_end ct_Reader_at_end oc_Reader_number kV_Reader_number dc_Reader_number pm_Reader_number cd_Reader_number ct_Reader_number oc_Reader_row kV_Reader_row dc_Reader_row pm_Reader_row cd_Reader_row ct_Reader_row oc_Machine_init kV_Machine_init dc_Machine_init pm_Machine_init cd_Machine_init ct_Machine_init oc_Machine_begin kV_Machine_begin dc_Machine_begin pm_Machine_begin cd_Machine_begin ct_Machine_begin oc_all_within kV_all_within dc_all_within pm_all_within cd_all_within ct_all_within oc_is_as_told kV_is_as_told dc_is_as_told pm_is_as_told cd_is_as_told ct_is_as_told oc_only_nothing kV_only_nothing dc_only_nothing pm_only_nothing cd_only_nothing ct_only_nothing oc_holds kV_holds dc_holds pm_holds cd_holds ct_holds oc_greatest kV_greatest dc_greatest pm_greatest cd_greatest ct_greatest oc_raised kV_raised dc_raised pm_raised cd_raised ct_raised oc_with_kind kV_with_kind dc_with_kind pm_with_kind cd_with_kind ct_with_kind oc_tails kV_tails dc_tails pm_tails cd_tails ct_tails oc_payable kV_payable dc_payable pm_payable cd_payable ct_payable oc_most_coins kV_most_coins dc_most_coins pm_most_coins cd_most_coins ct_most_coins oc_payment_back kV_payment_back dc_payment_back pm_payment_back cd_payment_back ct_payment_back oc_since kV_since dc_since pm_since cd_since ct_since oc_worth kV_worth dc_worth pm_worth cd_worth ct_worth oc_bits kV_bits dc_bits pm_bits cd_bits ct_bits oc_refusal kV_refusal dc_refusal pm_refusal cd_refusal ct_refusal oc_start kV_start dc_start pm_start cd_start ct_start oc_press kV_press dc_press pm_press cd_press ct_press oc_sell kV_sell dc_sell pm_sell cd_sell ct_sell oc_cancel kV_cancel dc_cancel pm_cancel cd_cancel ct_cancel oc_tick kV_tick dc_tick pm_tick cd_tick ct_tick oc_answer_call kV_answer_call dc_answer_call pm_answer_call cd_answer_call ct_answer_call oc_answers kV_answers dc_answers pm_answers cd_answers ct_answers : Value}
    {t_WIDTH t_TAKE t_IN t_OUT t_FELL t_PAY t_DROP t_SHOW t_START t_PRESS t_CANCEL t_WRONG t_NOT_FOR_SALE t_DID_NOT_FALL : Tok}
    (aC_Setup : PySem.W.nsIn K mainGlobals "Setup" = some (some (.ref cSetup)))
    (aC_Around : PySem.W.nsIn K mainGlobals "Around" = some (some (.ref cAround)))
    (aC_Turn : PySem.W.nsIn K mainGlobals "Turn" = some (some (.ref cTurn)))
    (aC_Reader : PySem.W.nsIn K mainGlobals "Reader" = some (some (.ref cReader)))
    (aC_Machine : PySem.W.nsIn K mainGlobals "Machine" = some (some (.ref cMachine)))
    (a_Setup_init : PySem.W.findIn K (.ref cSetup) "__init__" = some (some (.ref f_Setup_init)))
    (i_Setup_init : PySem.W.isFn K (.ref f_Setup_init) = true)
    (l_Setup_init : K.lookup f_Setup_init = some ⟨oc_Setup_init, od_Setup_init, .func (PySem.W.fnOf "__init__" "Setup.__init__" (defArgs s_Setup_init) (defBody s_Setup_init) (defScope s_Setup_init) .none kV_Setup_init dc_Setup_init pm_Setup_init an_Setup_init cd_Setup_init ct_Setup_init), sl_Setup_init⟩)
    (c_Setup_init : PySem.W.codeIn K cd_Setup_init "Setup.__init__" = true)
    (k_Setup_init : PySem.W.keepIn K (.ref f_Setup_init) = true)
    (a_Around_init : PySem.W.findIn K (.ref cAround) "__init__" = some (some (.ref f_Around_init)))
    (i_Around_init : PySem.W.isFn K (.ref f_Around_init) = true)
    (l_Around_init : K.lookup f_Around_init = some ⟨oc_Around_init, od_Around_init, .func (PySem.W.fnOf "__init__" "Around.__init__" (defArgs s_Around_init) (defBody s_Around_init) (defScope s_Around_init) .none kV_Around_init dc_Around_init pm_Around_init an_Around_init cd_Around_init ct_Around_init), sl_Around_init⟩)
    (c_Around_init : PySem.W.codeIn K cd_Around_init "Around.__init__" = true)
    (k_Around_init : PySem.W.keepIn K (.ref f_Around_init) = true)
    (a_Around_note : PySem.W.findIn K (.ref cAround) "note" = some (some (.ref f_Around_note)))
    (i_Around_note : PySem.W.isFn K (.ref f_Around_note) = true)
    (l_Around_note : K.lookup f_Around_note = some ⟨oc_Around_note, od_Around_note, .func (PySem.W.fnOf "note" "Around.note" (defArgs s_Around_note) (defBody s_Around_note) (defScope s_Around_note) .none kV_Around_note dc_Around_note pm_Around_note an_Around_note cd_Around_note ct_Around_note), sl_Around_note⟩)
    (c_Around_note : PySem.W.codeIn K cd_Around_note "Around.note" = true)
    (k_Around_note : PySem.W.keepIn K (.ref f_Around_note) = true)
    (a_Around_ask : PySem.W.findIn K (.ref cAround) "ask" = some (some (.ref f_Around_ask)))
    (i_Around_ask : PySem.W.isFn K (.ref f_Around_ask) = true)
    (l_Around_ask : K.lookup f_Around_ask = some ⟨oc_Around_ask, od_Around_ask, .func (PySem.W.fnOf "ask" "Around.ask" (defArgs s_Around_ask) (defBody s_Around_ask) (defScope s_Around_ask) .none kV_Around_ask dc_Around_ask pm_Around_ask an_Around_ask cd_Around_ask ct_Around_ask), sl_Around_ask⟩)
    (c_Around_ask : PySem.W.codeIn K cd_Around_ask "Around.ask" = true)
    (k_Around_ask : PySem.W.keepIn K (.ref f_Around_ask) = true)
    (a_Around_counters : PySem.W.findIn K (.ref cAround) "counters" = some (some (.ref f_Around_counters)))
    (i_Around_counters : PySem.W.isFn K (.ref f_Around_counters) = true)
    (l_Around_counters : K.lookup f_Around_counters = some ⟨oc_Around_counters, od_Around_counters, .func (PySem.W.fnOf "counters" "Around.counters" (defArgs s_Around_counters) (defBody s_Around_counters) (defScope s_Around_counters) .none kV_Around_counters dc_Around_counters pm_Around_counters an_Around_counters cd_Around_counters ct_Around_counters), sl_Around_counters⟩)
    (c_Around_counters : PySem.W.codeIn K cd_Around_counters "Around.counters" = true)
    (k_Around_counters : PySem.W.keepIn K (.ref f_Around_counters) = true)
    (a_Around_pay : PySem.W.findIn K (.ref cAround) "pay" = some (some (.ref f_Around_pay)))
    (i_Around_pay : PySem.W.isFn K (.ref f_Around_pay) = true)
    (l_Around_pay : K.lookup f_Around_pay = some ⟨oc_Around_pay, od_Around_pay, .func (PySem.W.fnOf "pay" "Around.pay" (defArgs s_Around_pay) (defBody s_Around_pay) (defScope s_Around_pay) .none kV_Around_pay dc_Around_pay pm_Around_pay an_Around_pay cd_Around_pay ct_Around_pay), sl_Around_pay⟩)
    (c_Around_pay : PySem.W.codeIn K cd_Around_pay "Around.pay" = true)
    (k_Around_pay : PySem.W.keepIn K (.ref f_Around_pay) = true)
    (a_Around_drop : PySem.W.findIn K (.ref cAround) "drop" = some (some (.ref f_Around_drop)))
    (i_Around_drop : PySem.W.isFn K (.ref f_Around_drop) = true)
    (l_Around_drop : K.lookup f_Around_drop = some ⟨oc_Around_drop, od_Around_drop, .func (PySem.W.fnOf "drop" "Around.drop" (defArgs s_Around_drop) (defBody s_Around_drop) (defScope s_Around_drop) .none kV_Around_drop dc_Around_drop pm_Around_drop an_Around_drop cd_Around_drop ct_Around_drop), sl_Around_drop⟩)
    (c_Around_drop : PySem.W.codeIn K cd_Around_drop "Around.drop" = true)
    (k_Around_drop : PySem.W.keepIn K (.ref f_Around_drop) = true)
    (a_Around_take : PySem.W.findIn K (.ref cAround) "take" = some (some (.ref f_Around_take)))
    (i_Around_take : PySem.W.isFn K (.ref f_Around_take) = true)
    (l_Around_take : K.lookup f_Around_take = some ⟨oc_Around_take, od_Around_take, .func (PySem.W.fnOf "take" "Around.take" (defArgs s_Around_take) (defBody s_Around_take) (defScope s_Around_take) .none kV_Around_take dc_Around_take pm_Around_take an_Around_take cd_Around_take ct_Around_take), sl_Around_take⟩)
    (c_Around_take : PySem.W.codeIn K cd_Around_take "Around.take" = true)
    (k_Around_take : PySem.W.keepIn K (.ref f_Around_take) = true)
    (a_Around_show : PySem.W.findIn K (.ref cAround) "show" = some (some (.ref f_Around_show)))
    (i_Around_show : PySem.W.isFn K (.ref f_Around_show) = true)
    (l_Around_show : K.lookup f_Around_show = some ⟨oc_Around_show, od_Around_show, .func (PySem.W.fnOf "show" "Around.show" (defArgs s_Around_show) (defBody s_Around_show) (defScope s_Around_show) .none kV_Around_show dc_Around_show pm_Around_show an_Around_show cd_Around_show ct_Around_show), sl_Around_show⟩)
    (c_Around_show : PySem.W.codeIn K cd_Around_show "Around.show" = true)
    (k_Around_show : PySem.W.keepIn K (.ref f_Around_show) = true)
    (a_Turn_init : PySem.W.findIn K (.ref cTurn) "__init__" = some (some (.ref f_Turn_init)))
    (i_Turn_init : PySem.W.isFn K (.ref f_Turn_init) = true)
    (l_Turn_init : K.lookup f_Turn_init = some ⟨oc_Turn_init, od_Turn_init, .func (PySem.W.fnOf "__init__" "Turn.__init__" (defArgs s_Turn_init) (defBody s_Turn_init) (defScope s_Turn_init) .none kV_Turn_init dc_Turn_init pm_Turn_init an_Turn_init cd_Turn_init ct_Turn_init), sl_Turn_init⟩)
    (c_Turn_init : PySem.W.codeIn K cd_Turn_init "Turn.__init__" = true)
    (k_Turn_init : PySem.W.keepIn K (.ref f_Turn_init) = true)
    (a_Turn_usable : PySem.W.findIn K (.ref cTurn) "usable" = some (some (.ref f_Turn_usable)))
    (i_Turn_usable : PySem.W.isFn K (.ref f_Turn_usable) = true)
    (l_Turn_usable : K.lookup f_Turn_usable = some ⟨oc_Turn_usable, od_Turn_usable, .func (PySem.W.fnOf "usable" "Turn.usable" (defArgs s_Turn_usable) (defBody s_Turn_usable) (defScope s_Turn_usable) .none kV_Turn_usable dc_Turn_usable pm_Turn_usable an_Turn_usable cd_Turn_usable ct_Turn_usable), sl_Turn_usable⟩)
    (c_Turn_usable : PySem.W.codeIn K cd_Turn_usable "Turn.usable" = true)
    (k_Turn_usable : PySem.W.keepIn K (.ref f_Turn_usable) = true)
    (a_Turn_for_sale : PySem.W.findIn K (.ref cTurn) "for_sale" = some (some (.ref f_Turn_for_sale)))
    (i_Turn_for_sale : PySem.W.isFn K (.ref f_Turn_for_sale) = true)
    (l_Turn_for_sale : K.lookup f_Turn_for_sale = some ⟨oc_Turn_for_sale, od_Turn_for_sale, .func (PySem.W.fnOf "for_sale" "Turn.for_sale" (defArgs s_Turn_for_sale) (defBody s_Turn_for_sale) (defScope s_Turn_for_sale) .none kV_Turn_for_sale dc_Turn_for_sale pm_Turn_for_sale an_Turn_for_sale cd_Turn_for_sale ct_Turn_for_sale), sl_Turn_for_sale⟩)
    (c_Turn_for_sale : PySem.W.codeIn K cd_Turn_for_sale "Turn.for_sale" = true)
    (k_Turn_for_sale : PySem.W.keepIn K (.ref f_Turn_for_sale) = true)
    (a_Turn_can_be_bought : PySem.W.findIn K (.ref cTurn) "can_be_bought" = some (some (.ref f_Turn_can_be_bought)))
    (i_Turn_can_be_bought : PySem.W.isFn K (.ref f_Turn_can_be_bought) = true)
    (l_Turn_can_be_bought : K.lookup f_Turn_can_be_bought = some ⟨oc_Turn_can_be_bought, od_Turn_can_be_bought, .func (PySem.W.fnOf "can_be_bought" "Turn.can_be_bought" (defArgs s_Turn_can_be_bought) (defBody s_Turn_can_be_bought) (defScope s_Turn_can_be_bought) .none kV_Turn_can_be_bought dc_Turn_can_be_bought pm_Turn_can_be_bought an_Turn_can_be_bought cd_Turn_can_be_bought ct_Turn_can_be_bought), sl_Turn_can_be_bought⟩)
    (c_Turn_can_be_bought : PySem.W.codeIn K cd_Turn_can_be_bought "Turn.can_be_bought" = true)
    (k_Turn_can_be_bought : PySem.W.keepIn K (.ref f_Turn_can_be_bought) = true)
    (a_Turn_drop : PySem.W.findIn K (.ref cTurn) "drop" = some (some (.ref f_Turn_drop)))
    (i_Turn_drop : PySem.W.isFn K (.ref f_Turn_drop) = true)
    (l_Turn_drop : K.lookup f_Turn_drop = some ⟨oc_Turn_drop, od_Turn_drop, .func (PySem.W.fnOf "drop" "Turn.drop" (defArgs s_Turn_drop) (defBody s_Turn_drop) (defScope s_Turn_drop) .none kV_Turn_drop dc_Turn_drop pm_Turn_drop an_Turn_drop cd_Turn_drop ct_Turn_drop), sl_Turn_drop⟩)
    (c_Turn_drop : PySem.W.codeIn K cd_Turn_drop "Turn.drop" = true)
    (k_Turn_drop : PySem.W.keepIn K (.ref f_Turn_drop) = true)
    (a_Turn_pay_coin : PySem.W.findIn K (.ref cTurn) "pay_coin" = some (some (.ref f_Turn_pay_coin)))
    (i_Turn_pay_coin : PySem.W.isFn K (.ref f_Turn_pay_coin) = true)
    (l_Turn_pay_coin : K.lookup f_Turn_pay_coin = some ⟨oc_Turn_pay_coin, od_Turn_pay_coin, .func (PySem.W.fnOf "pay_coin" "Turn.pay_coin" (defArgs s_Turn_pay_coin) (defBody s_Turn_pay_coin) (defScope s_Turn_pay_coin) .none kV_Turn_pay_coin dc_Turn_pay_coin pm_Turn_pay_coin an_Turn_pay_coin cd_Turn_pay_coin ct_Turn_pay_coin), sl_Turn_pay_coin⟩)
    (c_Turn_pay_coin : PySem.W.codeIn K cd_Turn_pay_coin "Turn.pay_coin" = true)
    (k_Turn_pay_coin : PySem.W.keepIn K (.ref f_Turn_pay_coin) = true)
    (a_Turn_pay_coins : PySem.W.findIn K (.ref cTurn) "pay_coins" = some (some (.ref f_Turn_pay_coins)))
    (i_Turn_pay_coins : PySem.W.isFn K (.ref f_Turn_pay_coins) = true)
    (l_Turn_pay_coins : K.lookup f_Turn_pay_coins = some ⟨oc_Turn_pay_coins, od_Turn_pay_coins, .func (PySem.W.fnOf "pay_coins" "Turn.pay_coins" (defArgs s_Turn_pay_coins) (defBody s_Turn_pay_coins) (defScope s_Turn_pay_coins) .none kV_Turn_pay_coins dc_Turn_pay_coins pm_Turn_pay_coins an_Turn_pay_coins cd_Turn_pay_coins ct_Turn_pay_coins), sl_Turn_pay_coins⟩)
    (c_Turn_pay_coins : PySem.W.codeIn K cd_Turn_pay_coins "Turn.pay_coins" = true)
    (k_Turn_pay_coins : PySem.W.keepIn K (.ref f_Turn_pay_coins) = true)
    (a_Turn_pay_back : PySem.W.findIn K (.ref cTurn) "pay_back" = some (some (.ref f_Turn_pay_back)))
    (i_Turn_pay_back : PySem.W.isFn K (.ref f_Turn_pay_back) = true)
    (l_Turn_pay_back : K.lookup f_Turn_pay_back = some ⟨oc_Turn_pay_back, od_Turn_pay_back, .func (PySem.W.fnOf "pay_back" "Turn.pay_back" (defArgs s_Turn_pay_back) (defBody s_Turn_pay_back) (defScope s_Turn_pay_back) .none kV_Turn_pay_back dc_Turn_pay_back pm_Turn_pay_back an_Turn_pay_back cd_Turn_pay_back ct_Turn_pay_back), sl_Turn_pay_back⟩)
    (c_Turn_pay_back : PySem.W.codeIn K cd_Turn_pay_back "Turn.pay_back" = true)
    (k_Turn_pay_back : PySem.W.keepIn K (.ref f_Turn_pay_back) = true)
    (a_Turn_end : PySem.W.findIn K (.ref cTurn) "end" = some (some (.ref f_Turn_end)))
    (i_Turn_end : PySem.W.isFn K (.ref f_Turn_end) = true)
    (l_Turn_end : K.lookup f_Turn_end = some ⟨oc_Turn_end, od_Turn_end, .func (PySem.W.fnOf "end" "Turn.end" (defArgs s_Turn_end) (defBody s_Turn_end) (defScope s_Turn_end) .none kV_Turn_end dc_Turn_end pm_Turn_end an_Turn_end cd_Turn_end ct_Turn_end), sl_Turn_end⟩)
    (c_Turn_end : PySem.W.codeIn K cd_Turn_end "Turn.end" = true)
    (k_Turn_end : PySem.W.keepIn K (.ref f_Turn_end) = true)
    (a_Reader_init : PySem.W.findIn K (.ref cReader) "__init__" = some (some (.ref f_Reader_init)))
    (i_Reader_init : PySem.W.isFn K (.ref f_Reader_init) = true)
    (l_Reader_init : K.lookup f_Reader_init = some ⟨oc_Reader_init, od_Reader_init, .func (PySem.W.fnOf "__init__" "Reader.__init__" (defArgs s_Reader_init) (defBody s_Reader_init) (defScope s_Reader_init) .none kV_Reader_init dc_Reader_init pm_Reader_init an_Reader_init cd_Reader_init ct_Reader_init), sl_Reader_init⟩)
    (c_Reader_init : PySem.W.codeIn K cd_Reader_init "Reader.__init__" = true)
    (k_Reader_init : PySem.W.keepIn K (.ref f_Reader_init) = true)
    (a_Reader_at_end : PySem.W.findIn K (.ref cReader) "at_end" = some (some (.ref f_Reader_at_end)))
    (i_Reader_at_end : PySem.W.isFn K (.ref f_Reader_at_end) = true)
    (l_Reader_at_end : K.lookup f_Reader_at_end = some ⟨oc_Reader_at_end, od_Reader_at_end, .func (PySem.W.fnOf "at_end" "Reader.at_end" (defArgs s_Reader_at_end) (defBody s_Reader_at_end) (defScope s_Reader_at_end) .none kV_Reader_at_end dc_Reader_at_end pm_Reader_at_end an_Reader_at_end cd_Reader_at_end ct_Reader_at_end), sl_Reader_at_end⟩)
    (c_Reader_at_end : PySem.W.codeIn K cd_Reader_at_end "Reader.at_end" = true)
    (k_Reader_at_end : PySem.W.keepIn K (.ref f_Reader_at_end) = true)
    (a_Reader_number : PySem.W.findIn K (.ref cReader) "number" = some (some (.ref f_Reader_number)))
    (i_Reader_number : PySem.W.isFn K (.ref f_Reader_number) = true)
    (l_Reader_number : K.lookup f_Reader_number = some ⟨oc_Reader_number, od_Reader_number, .func (PySem.W.fnOf "number" "Reader.number" (defArgs s_Reader_number) (defBody s_Reader_number) (defScope s_Reader_number) .none kV_Reader_number dc_Reader_number pm_Reader_number an_Reader_number cd_Reader_number ct_Reader_number), sl_Reader_number⟩)
    (c_Reader_number : PySem.W.codeIn K cd_Reader_number "Reader.number" = true)
    (k_Reader_number : PySem.W.keepIn K (.ref f_Reader_number) = true)
    (a_Reader_row : PySem.W.findIn K (.ref cReader) "row" = some (some (.ref f_Reader_row)))
    (i_Reader_row : PySem.W.isFn K (.ref f_Reader_row) = true)
    (l_Reader_row : K.lookup f_Reader_row = some ⟨oc_Reader_row, od_Reader_row, .func (PySem.W.fnOf "row" "Reader.row" (defArgs s_Reader_row) (defBody s_Reader_row) (defScope s_Reader_row) .none kV_Reader_row dc_Reader_row pm_Reader_row an_Reader_row cd_Reader_row ct_Reader_row), sl_Reader_row⟩)
    (c_Reader_row : PySem.W.codeIn K cd_Reader_row "Reader.row" = true)
    (k_Reader_row : PySem.W.keepIn K (.ref f_Reader_row) = true)
    (a_Machine_init : PySem.W.findIn K (.ref cMachine) "__init__" = some (some (.ref f_Machine_init)))
    (i_Machine_init : PySem.W.isFn K (.ref f_Machine_init) = true)
    (l_Machine_init : K.lookup f_Machine_init = some ⟨oc_Machine_init, od_Machine_init, .func (PySem.W.fnOf "__init__" "Machine.__init__" (defArgs s_Machine_init) (defBody s_Machine_init) (defScope s_Machine_init) .none kV_Machine_init dc_Machine_init pm_Machine_init an_Machine_init cd_Machine_init ct_Machine_init), sl_Machine_init⟩)
    (c_Machine_init : PySem.W.codeIn K cd_Machine_init "Machine.__init__" = true)
    (k_Machine_init : PySem.W.keepIn K (.ref f_Machine_init) = true)
    (a_Machine_begin : PySem.W.findIn K (.ref cMachine) "begin" = some (some (.ref f_Machine_begin)))
    (i_Machine_begin : PySem.W.isFn K (.ref f_Machine_begin) = true)
    (l_Machine_begin : K.lookup f_Machine_begin = some ⟨oc_Machine_begin, od_Machine_begin, .func (PySem.W.fnOf "begin" "Machine.begin" (defArgs s_Machine_begin) (defBody s_Machine_begin) (defScope s_Machine_begin) .none kV_Machine_begin dc_Machine_begin pm_Machine_begin an_Machine_begin cd_Machine_begin ct_Machine_begin), sl_Machine_begin⟩)
    (c_Machine_begin : PySem.W.codeIn K cd_Machine_begin "Machine.begin" = true)
    (k_Machine_begin : PySem.W.keepIn K (.ref f_Machine_begin) = true)
    (a_all_within : PySem.W.nsIn K mainGlobals "all_within" = some (some (.ref f_all_within)))
    (l_all_within : K.lookup f_all_within = some ⟨oc_all_within, od_all_within, .func (PySem.W.fnOf "all_within" "all_within" (defArgs s_all_within) (defBody s_all_within) (defScope s_all_within) .none kV_all_within dc_all_within pm_all_within an_all_within cd_all_within ct_all_within), sl_all_within⟩)
    (c_all_within : PySem.W.codeIn K cd_all_within "all_within" = true)
    (k_all_within : PySem.W.keepIn K (.ref f_all_within) = true)
    (a_is_as_told : PySem.W.nsIn K mainGlobals "is_as_told" = some (some (.ref f_is_as_told)))
    (l_is_as_told : K.lookup f_is_as_told = some ⟨oc_is_as_told, od_is_as_told, .func (PySem.W.fnOf "is_as_told" "is_as_told" (defArgs s_is_as_told) (defBody s_is_as_told) (defScope s_is_as_told) .none kV_is_as_told dc_is_as_told pm_is_as_told an_is_as_told cd_is_as_told ct_is_as_told), sl_is_as_told⟩)
    (c_is_as_told : PySem.W.codeIn K cd_is_as_told "is_as_told" = true)
    (k_is_as_told : PySem.W.keepIn K (.ref f_is_as_told) = true)
    (a_only_nothing : PySem.W.nsIn K mainGlobals "only_nothing" = some (some (.ref f_only_nothing)))
    (l_only_nothing : K.lookup f_only_nothing = some ⟨oc_only_nothing, od_only_nothing, .func (PySem.W.fnOf "only_nothing" "only_nothing" (defArgs s_only_nothing) (defBody s_only_nothing) (defScope s_only_nothing) .none kV_only_nothing dc_only_nothing pm_only_nothing an_only_nothing cd_only_nothing ct_only_nothing), sl_only_nothing⟩)
    (c_only_nothing : PySem.W.codeIn K cd_only_nothing "only_nothing" = true)
    (k_only_nothing : PySem.W.keepIn K (.ref f_only_nothing) = true)
    (a_holds : PySem.W.nsIn K mainGlobals "holds" = some (some (.ref f_holds)))
    (l_holds : K.lookup f_holds = some ⟨oc_holds, od_holds, .func (PySem.W.fnOf "holds" "holds" (defArgs s_holds) (defBody s_holds) (defScope s_holds) .none kV_holds dc_holds pm_holds an_holds cd_holds ct_holds), sl_holds⟩)
    (c_holds : PySem.W.codeIn K cd_holds "holds" = true)
    (k_holds : PySem.W.keepIn K (.ref f_holds) = true)
    (a_greatest : PySem.W.nsIn K mainGlobals "greatest" = some (some (.ref f_greatest)))
    (l_greatest : K.lookup f_greatest = some ⟨oc_greatest, od_greatest, .func (PySem.W.fnOf "greatest" "greatest" (defArgs s_greatest) (defBody s_greatest) (defScope s_greatest) .none kV_greatest dc_greatest pm_greatest an_greatest cd_greatest ct_greatest), sl_greatest⟩)
    (c_greatest : PySem.W.codeIn K cd_greatest "greatest" = true)
    (k_greatest : PySem.W.keepIn K (.ref f_greatest) = true)
    (a_raised : PySem.W.nsIn K mainGlobals "raised" = some (some (.ref f_raised)))
    (l_raised : K.lookup f_raised = some ⟨oc_raised, od_raised, .func (PySem.W.fnOf "raised" "raised" (defArgs s_raised) (defBody s_raised) (defScope s_raised) .none kV_raised dc_raised pm_raised an_raised cd_raised ct_raised), sl_raised⟩)
    (c_raised : PySem.W.codeIn K cd_raised "raised" = true)
    (k_raised : PySem.W.keepIn K (.ref f_raised) = true)
    (a_with_kind : PySem.W.nsIn K mainGlobals "with_kind" = some (some (.ref f_with_kind)))
    (l_with_kind : K.lookup f_with_kind = some ⟨oc_with_kind, od_with_kind, .func (PySem.W.fnOf "with_kind" "with_kind" (defArgs s_with_kind) (defBody s_with_kind) (defScope s_with_kind) .none kV_with_kind dc_with_kind pm_with_kind an_with_kind cd_with_kind ct_with_kind), sl_with_kind⟩)
    (c_with_kind : PySem.W.codeIn K cd_with_kind "with_kind" = true)
    (k_with_kind : PySem.W.keepIn K (.ref f_with_kind) = true)
    (a_tails : PySem.W.nsIn K mainGlobals "tails" = some (some (.ref f_tails)))
    (l_tails : K.lookup f_tails = some ⟨oc_tails, od_tails, .func (PySem.W.fnOf "tails" "tails" (defArgs s_tails) (defBody s_tails) (defScope s_tails) .none kV_tails dc_tails pm_tails an_tails cd_tails ct_tails), sl_tails⟩)
    (c_tails : PySem.W.codeIn K cd_tails "tails" = true)
    (k_tails : PySem.W.keepIn K (.ref f_tails) = true)
    (a_payable : PySem.W.nsIn K mainGlobals "payable" = some (some (.ref f_payable)))
    (l_payable : K.lookup f_payable = some ⟨oc_payable, od_payable, .func (PySem.W.fnOf "payable" "payable" (defArgs s_payable) (defBody s_payable) (defScope s_payable) .none kV_payable dc_payable pm_payable an_payable cd_payable ct_payable), sl_payable⟩)
    (c_payable : PySem.W.codeIn K cd_payable "payable" = true)
    (k_payable : PySem.W.keepIn K (.ref f_payable) = true)
    (a_most_coins : PySem.W.nsIn K mainGlobals "most_coins" = some (some (.ref f_most_coins)))
    (l_most_coins : K.lookup f_most_coins = some ⟨oc_most_coins, od_most_coins, .func (PySem.W.fnOf "most_coins" "most_coins" (defArgs s_most_coins) (defBody s_most_coins) (defScope s_most_coins) .none kV_most_coins dc_most_coins pm_most_coins an_most_coins cd_most_coins ct_most_coins), sl_most_coins⟩)
    (c_most_coins : PySem.W.codeIn K cd_most_coins "most_coins" = true)
    (k_most_coins : PySem.W.keepIn K (.ref f_most_coins) = true)
    (a_payment_back : PySem.W.nsIn K mainGlobals "payment_back" = some (some (.ref f_payment_back)))
    (l_payment_back : K.lookup f_payment_back = some ⟨oc_payment_back, od_payment_back, .func (PySem.W.fnOf "payment_back" "payment_back" (defArgs s_payment_back) (defBody s_payment_back) (defScope s_payment_back) .none kV_payment_back dc_payment_back pm_payment_back an_payment_back cd_payment_back ct_payment_back), sl_payment_back⟩)
    (c_payment_back : PySem.W.codeIn K cd_payment_back "payment_back" = true)
    (k_payment_back : PySem.W.keepIn K (.ref f_payment_back) = true)
    (a_since : PySem.W.nsIn K mainGlobals "since" = some (some (.ref f_since)))
    (l_since : K.lookup f_since = some ⟨oc_since, od_since, .func (PySem.W.fnOf "since" "since" (defArgs s_since) (defBody s_since) (defScope s_since) .none kV_since dc_since pm_since an_since cd_since ct_since), sl_since⟩)
    (c_since : PySem.W.codeIn K cd_since "since" = true)
    (k_since : PySem.W.keepIn K (.ref f_since) = true)
    (a_worth : PySem.W.nsIn K mainGlobals "worth" = some (some (.ref f_worth)))
    (l_worth : K.lookup f_worth = some ⟨oc_worth, od_worth, .func (PySem.W.fnOf "worth" "worth" (defArgs s_worth) (defBody s_worth) (defScope s_worth) .none kV_worth dc_worth pm_worth an_worth cd_worth ct_worth), sl_worth⟩)
    (c_worth : PySem.W.codeIn K cd_worth "worth" = true)
    (k_worth : PySem.W.keepIn K (.ref f_worth) = true)
    (a_bits : PySem.W.nsIn K mainGlobals "bits" = some (some (.ref f_bits)))
    (l_bits : K.lookup f_bits = some ⟨oc_bits, od_bits, .func (PySem.W.fnOf "bits" "bits" (defArgs s_bits) (defBody s_bits) (defScope s_bits) .none kV_bits dc_bits pm_bits an_bits cd_bits ct_bits), sl_bits⟩)
    (c_bits : PySem.W.codeIn K cd_bits "bits" = true)
    (k_bits : PySem.W.keepIn K (.ref f_bits) = true)
    (a_refusal : PySem.W.nsIn K mainGlobals "refusal" = some (some (.ref f_refusal)))
    (l_refusal : K.lookup f_refusal = some ⟨oc_refusal, od_refusal, .func (PySem.W.fnOf "refusal" "refusal" (defArgs s_refusal) (defBody s_refusal) (defScope s_refusal) .none kV_refusal dc_refusal pm_refusal an_refusal cd_refusal ct_refusal), sl_refusal⟩)
    (c_refusal : PySem.W.codeIn K cd_refusal "refusal" = true)
    (k_refusal : PySem.W.keepIn K (.ref f_refusal) = true)
    (a_start : PySem.W.nsIn K mainGlobals "start" = some (some (.ref f_start)))
    (l_start : K.lookup f_start = some ⟨oc_start, od_start, .func (PySem.W.fnOf "start" "start" (defArgs s_start) (defBody s_start) (defScope s_start) .none kV_start dc_start pm_start an_start cd_start ct_start), sl_start⟩)
    (c_start : PySem.W.codeIn K cd_start "start" = true)
    (k_start : PySem.W.keepIn K (.ref f_start) = true)
    (a_press : PySem.W.nsIn K mainGlobals "press" = some (some (.ref f_press)))
    (l_press : K.lookup f_press = some ⟨oc_press, od_press, .func (PySem.W.fnOf "press" "press" (defArgs s_press) (defBody s_press) (defScope s_press) .none kV_press dc_press pm_press an_press cd_press ct_press), sl_press⟩)
    (c_press : PySem.W.codeIn K cd_press "press" = true)
    (k_press : PySem.W.keepIn K (.ref f_press) = true)
    (a_sell : PySem.W.nsIn K mainGlobals "sell" = some (some (.ref f_sell)))
    (l_sell : K.lookup f_sell = some ⟨oc_sell, od_sell, .func (PySem.W.fnOf "sell" "sell" (defArgs s_sell) (defBody s_sell) (defScope s_sell) .none kV_sell dc_sell pm_sell an_sell cd_sell ct_sell), sl_sell⟩)
    (c_sell : PySem.W.codeIn K cd_sell "sell" = true)
    (k_sell : PySem.W.keepIn K (.ref f_sell) = true)
    (a_cancel : PySem.W.nsIn K mainGlobals "cancel" = some (some (.ref f_cancel)))
    (l_cancel : K.lookup f_cancel = some ⟨oc_cancel, od_cancel, .func (PySem.W.fnOf "cancel" "cancel" (defArgs s_cancel) (defBody s_cancel) (defScope s_cancel) .none kV_cancel dc_cancel pm_cancel an_cancel cd_cancel ct_cancel), sl_cancel⟩)
    (c_cancel : PySem.W.codeIn K cd_cancel "cancel" = true)
    (k_cancel : PySem.W.keepIn K (.ref f_cancel) = true)
    (a_tick : PySem.W.nsIn K mainGlobals "tick" = some (some (.ref f_tick)))
    (l_tick : K.lookup f_tick = some ⟨oc_tick, od_tick, .func (PySem.W.fnOf "tick" "tick" (defArgs s_tick) (defBody s_tick) (defScope s_tick) .none kV_tick dc_tick pm_tick an_tick cd_tick ct_tick), sl_tick⟩)
    (c_tick : PySem.W.codeIn K cd_tick "tick" = true)
    (k_tick : PySem.W.keepIn K (.ref f_tick) = true)
    (a_answer_call : PySem.W.nsIn K mainGlobals "answer_call" = some (some (.ref f_answer_call)))
    (l_answer_call : K.lookup f_answer_call = some ⟨oc_answer_call, od_answer_call, .func (PySem.W.fnOf "answer_call" "answer_call" (defArgs s_answer_call) (defBody s_answer_call) (defScope s_answer_call) .none kV_answer_call dc_answer_call pm_answer_call an_answer_call cd_answer_call ct_answer_call), sl_answer_call⟩)
    (c_answer_call : PySem.W.codeIn K cd_answer_call "answer_call" = true)
    (k_answer_call : PySem.W.keepIn K (.ref f_answer_call) = true)
    (a_answers : PySem.W.nsIn K mainGlobals "answers" = some (some (.ref f_answers)))
    (l_answers : K.lookup f_answers = some ⟨oc_answers, od_answers, .func (PySem.W.fnOf "answers" "answers" (defArgs s_answers) (defBody s_answers) (defScope s_answers) .none kV_answers dc_answers pm_answers an_answers cd_answers ct_answers), sl_answers⟩)
    (c_answers : PySem.W.codeIn K cd_answers "answers" = true)
    (k_answers : PySem.W.keepIn K (.ref f_answers) = true)
    (pg_Setup : PySem.W.plainGet K cSetup Str.empty = true)
    (hd_Setup : PySem.W.hasDictIn K cSetup = true)
    (po_Setup : PySem.W.plainOver K cSetup = true)
    (sa_Setup : PySem.W.findIn K (.ref cSetup) "__setattr__" = some (some (.builtin "object.__setattr__")))
    (mk_Setup : PySem.W.makesIn K cSetup = true)
    (kc_Setup : PySem.W.keepIn K (.ref cSetup) = true)
    (no_Setup_kinds : PySem.W.findIn K (.ref cSetup) "kinds" = some none)
    (no_Setup_slots : PySem.W.findIn K (.ref cSetup) "slots" = some none)
    (no_Setup_most : PySem.W.findIn K (.ref cSetup) "most" = some none)
    (no_Setup_none : PySem.W.findIn K (.ref cSetup) "none" = some none)
    (no_Setup_value : PySem.W.findIn K (.ref cSetup) "value" = some none)
    (no_Setup_tube : PySem.W.findIn K (.ref cSetup) "tube" = some none)
    (no_Setup_price : PySem.W.findIn K (.ref cSetup) "price" = some none)
    (no_Setup_stock : PySem.W.findIn K (.ref cSetup) "stock" = some none)
    (no_Setup_in0 : PySem.W.findIn K (.ref cSetup) "in0" = some none)
    (no_Setup_out0 : PySem.W.findIn K (.ref cSetup) "out0" = some none)
    (no_Setup_fell0 : PySem.W.findIn K (.ref cSetup) "fell0" = some none)
    (pg_Around : PySem.W.plainGet K cAround Str.empty = true)
    (hd_Around : PySem.W.hasDictIn K cAround = true)
    (po_Around : PySem.W.plainOver K cAround = true)
    (sa_Around : PySem.W.findIn K (.ref cAround) "__setattr__" = some (some (.builtin "object.__setattr__")))
    (mk_Around : PySem.W.makesIn K cAround = true)
    (kc_Around : PySem.W.keepIn K (.ref cAround) = true)
    (no_Around_told : PySem.W.findIn K (.ref cAround) "told" = some none)
    (no_Around_heard : PySem.W.findIn K (.ref cAround) "heard" = some none)
    (no_Around_times : PySem.W.findIn K (.ref cAround) "times" = some none)
    (no_Around_asked : PySem.W.findIn K (.ref cAround) "asked" = some none)
    (pg_Turn : PySem.W.plainGet K cTurn Str.empty = true)
    (hd_Turn : PySem.W.hasDictIn K cTurn = true)
    (po_Turn : PySem.W.plainOver K cTurn = true)
    (sa_Turn : PySem.W.findIn K (.ref cTurn) "__setattr__" = some (some (.builtin "object.__setattr__")))
    (mk_Turn : PySem.W.makesIn K cTurn = true)
    (kc_Turn : PySem.W.keepIn K (.ref cTurn) = true)
    (no_Turn_machine : PySem.W.findIn K (.ref cTurn) "machine" = some none)
    (no_Turn_around : PySem.W.findIn K (.ref cTurn) "around" = some none)
    (no_Turn_value : PySem.W.findIn K (.ref cTurn) "value" = some none)
    (no_Turn_at_hand : PySem.W.findIn K (.ref cTurn) "at_hand" = some none)
    (no_Turn_left : PySem.W.findIn K (.ref cTurn) "left" = some none)
    (no_Turn_credit : PySem.W.findIn K (.ref cTurn) "credit" = some none)
    (pg_Reader : PySem.W.plainGet K cReader Str.empty = true)
    (hd_Reader : PySem.W.hasDictIn K cReader = true)
    (po_Reader : PySem.W.plainOver K cReader = true)
    (sa_Reader : PySem.W.findIn K (.ref cReader) "__setattr__" = some (some (.builtin "object.__setattr__")))
    (mk_Reader : PySem.W.makesIn K cReader = true)
    (kc_Reader : PySem.W.keepIn K (.ref cReader) = true)
    (no_Reader_numbers : PySem.W.findIn K (.ref cReader) "numbers" = some none)
    (no_Reader_place : PySem.W.findIn K (.ref cReader) "place" = some none)
    (pg_Machine : PySem.W.plainGet K cMachine Str.empty = true)
    (hd_Machine : PySem.W.hasDictIn K cMachine = true)
    (po_Machine : PySem.W.plainOver K cMachine = true)
    (sa_Machine : PySem.W.findIn K (.ref cMachine) "__setattr__" = some (some (.builtin "object.__setattr__")))
    (mk_Machine : PySem.W.makesIn K cMachine = true)
    (kc_Machine : PySem.W.keepIn K (.ref cMachine) = true)
    (no_Machine_setup : PySem.W.findIn K (.ref cMachine) "setup" = some none)
    (no_Machine_stuck : PySem.W.findIn K (.ref cMachine) "stuck" = some none)
    (no_Machine_failed : PySem.W.findIn K (.ref cMachine) "failed" = some none)
    (g_WIDTH : PySem.W.nsIn K mainGlobals "WIDTH" = some (some (.int (1000) t_WIDTH)))
    (g_TAKE : PySem.W.nsIn K mainGlobals "TAKE" = some (some (.int (1) t_TAKE)))
    (g_IN : PySem.W.nsIn K mainGlobals "IN" = some (some (.int (2) t_IN)))
    (g_OUT : PySem.W.nsIn K mainGlobals "OUT" = some (some (.int (3) t_OUT)))
    (g_FELL : PySem.W.nsIn K mainGlobals "FELL" = some (some (.int (4) t_FELL)))
    (g_PAY : PySem.W.nsIn K mainGlobals "PAY" = some (some (.int (5) t_PAY)))
    (g_DROP : PySem.W.nsIn K mainGlobals "DROP" = some (some (.int (6) t_DROP)))
    (g_SHOW : PySem.W.nsIn K mainGlobals "SHOW" = some (some (.int (7) t_SHOW)))
    (g_START : PySem.W.nsIn K mainGlobals "START" = some (some (.int (0) t_START)))
    (g_PRESS : PySem.W.nsIn K mainGlobals "PRESS" = some (some (.int (1) t_PRESS)))
    (g_CANCEL : PySem.W.nsIn K mainGlobals "CANCEL" = some (some (.int (2) t_CANCEL)))
    (g_WRONG : PySem.W.nsIn K mainGlobals "WRONG" = some (some (.int (-22) t_WRONG)))
    (g_NOT_FOR_SALE : PySem.W.nsIn K mainGlobals "NOT_FOR_SALE" = some (some (.int (-33) t_NOT_FOR_SALE)))
    (g_DID_NOT_FALL : PySem.W.nsIn K mainGlobals "DID_NOT_FALL" = some (some (.int (-5) t_DID_NOT_FALL)))
    (n_all : PySem.W.nsIn K mainGlobals "all" = some Option.none)
    (n_sum : PySem.W.nsIn K mainGlobals "sum" = some Option.none)
    (n_zip : PySem.W.nsIn K mainGlobals "zip" = some Option.none)
    (n_range : PySem.W.nsIn K mainGlobals "range" = some Option.none)
    (n_enumerate : PySem.W.nsIn K mainGlobals "enumerate" = some Option.none)
    (n_len : PySem.W.nsIn K mainGlobals "len" = some Option.none)
    (n_min : PySem.W.nsIn K mainGlobals "min" = some Option.none)
    : ∃ a : Ad, Txt K mg a ∧ mg "answers" = some (.ref a.f_answers) ∧ ∀ (s : Shared) (us : List Value), us.length = (["calls"] : List Str).length → BindsTo s a.d_answers ⟨us, []⟩ ((["calls"] : List Str).zip us) := by
  have F_Setup_init := fun_mk (st := s_Setup_init) l_Setup_init c_Setup_init k_Setup_init
  have F_Around_init := fun_mk (st := s_Around_init) l_Around_init c_Around_init k_Around_init
  have F_Around_note := fun_mk (st := s_Around_note) l_Around_note c_Around_note k_Around_note
  have F_Around_ask := fun_mk (st := s_Around_ask) l_Around_ask c_Around_ask k_Around_ask
  have F_Around_counters := fun_mk (st := s_Around_counters) l_Around_counters c_Around_counters k_Around_counters
  have F_Around_pay := fun_mk (st := s_Around_pay) l_Around_pay c_Around_pay k_Around_pay
  have F_Around_drop := fun_mk (st := s_Around_drop) l_Around_drop c_Around_drop k_Around_drop
  have F_Around_take := fun_mk (st := s_Around_take) l_Around_take c_Around_take k_Around_take
  have F_Around_show := fun_mk (st := s_Around_show) l_Around_show c_Around_show k_Around_show
  have F_Turn_init := fun_mk (st := s_Turn_init) l_Turn_init c_Turn_init k_Turn_init
  have F_Turn_usable := fun_mk (st := s_Turn_usable) l_Turn_usable c_Turn_usable k_Turn_usable
  have F_Turn_for_sale := fun_mk (st := s_Turn_for_sale) l_Turn_for_sale c_Turn_for_sale k_Turn_for_sale
  have F_Turn_can_be_bought := fun_mk (st := s_Turn_can_be_bought) l_Turn_can_be_bought c_Turn_can_be_bought k_Turn_can_be_bought
  have F_Turn_drop := fun_mk (st := s_Turn_drop) l_Turn_drop c_Turn_drop k_Turn_drop
  have F_Turn_pay_coin := fun_mk (st := s_Turn_pay_coin) l_Turn_pay_coin c_Turn_pay_coin k_Turn_pay_coin
  have F_Turn_pay_coins := fun_mk (st := s_Turn_pay_coins) l_Turn_pay_coins c_Turn_pay_coins k_Turn_pay_coins
  have F_Turn_pay_back := fun_mk (st := s_Turn_pay_back) l_Turn_pay_back c_Turn_pay_back k_Turn_pay_back
  have F_Turn_end := fun_mk (st := s_Turn_end) l_Turn_end c_Turn_end k_Turn_end
  have F_Reader_init := fun_mk (st := s_Reader_init) l_Reader_init c_Reader_init k_Reader_init
  have F_Reader_at_end := fun_mk (st := s_Reader_at_end) l_Reader_at_end c_Reader_at_end k_Reader_at_end
  have F_Reader_number := fun_mk (st := s_Reader_number) l_Reader_number c_Reader_number k_Reader_number
  have F_Reader_row := fun_mk (st := s_Reader_row) l_Reader_row c_Reader_row k_Reader_row
  have F_Machine_init := fun_mk (st := s_Machine_init) l_Machine_init c_Machine_init k_Machine_init
  have F_Machine_begin := fun_mk (st := s_Machine_begin) l_Machine_begin c_Machine_begin k_Machine_begin
  have F_all_within := fun_mk (st := s_all_within) l_all_within c_all_within k_all_within
  have F_is_as_told := fun_mk (st := s_is_as_told) l_is_as_told c_is_as_told k_is_as_told
  have F_only_nothing := fun_mk (st := s_only_nothing) l_only_nothing c_only_nothing k_only_nothing
  have F_holds := fun_mk (st := s_holds) l_holds c_holds k_holds
  have F_greatest := fun_mk (st := s_greatest) l_greatest c_greatest k_greatest
  have F_raised := fun_mk (st := s_raised) l_raised c_raised k_raised
  have F_with_kind := fun_mk (st := s_with_kind) l_with_kind c_with_kind k_with_kind
  have F_tails := fun_mk (st := s_tails) l_tails c_tails k_tails
  have F_payable := fun_mk (st := s_payable) l_payable c_payable k_payable
  have F_most_coins := fun_mk (st := s_most_coins) l_most_coins c_most_coins k_most_coins
  have F_payment_back := fun_mk (st := s_payment_back) l_payment_back c_payment_back k_payment_back
  have F_since := fun_mk (st := s_since) l_since c_since k_since
  have F_worth := fun_mk (st := s_worth) l_worth c_worth k_worth
  have F_bits := fun_mk (st := s_bits) l_bits c_bits k_bits
  have F_refusal := fun_mk (st := s_refusal) l_refusal c_refusal k_refusal
  have F_start := fun_mk (st := s_start) l_start c_start k_start
  have F_press := fun_mk (st := s_press) l_press c_press k_press
  have F_sell := fun_mk (st := s_sell) l_sell c_sell k_sell
  have F_cancel := fun_mk (st := s_cancel) l_cancel c_cancel k_cancel
  have F_tick := fun_mk (st := s_tick) l_tick c_tick k_tick
  have F_answer_call := fun_mk (st := s_answer_call) l_answer_call c_answer_call k_answer_call
  have F_answers := fun_mk (st := s_answers) l_answers c_answers k_answers
  refine ⟨⟨cSetup, cAround, cTurn, cReader, cMachine, f_Setup_init, PySem.W.fnOf "__init__" "Setup.__init__" (defArgs s_Setup_init) (defBody s_Setup_init) (defScope s_Setup_init) .none kV_Setup_init dc_Setup_init pm_Setup_init an_Setup_init cd_Setup_init ct_Setup_init, f_Around_init, PySem.W.fnOf "__init__" "Around.__init__" (defArgs s_Around_init) (defBody s_Around_init) (defScope s_Around_init) .none kV_Around_init dc_Around_init pm_Around_init an_Around_init cd_Around_init ct_Around_init, f_Around_note, PySem.W.fnOf "note" "Around.note" (defArgs s_Around_note) (defBody s_Around_note) (defScope s_Around_note) .none kV_Around_note dc_Around_note pm_Around_note an_Around_note cd_Around_note ct_Around_note, f_Around_ask, PySem.W.fnOf "ask" "Around.ask" (defArgs s_Around_ask) (defBody s_Around_ask) (defScope s_Around_ask) .none kV_Around_ask dc_Around_ask pm_Around_ask an_Around_ask cd_Around_ask ct_Around_ask, f_Around_counters, PySem.W.fnOf "counters" "Around.counters" (defArgs s_Around_counters) (defBody s_Around_counters) (defScope s_Around_counters) .none kV_Around_counters dc_Around_counters pm_Around_counters an_Around_counters cd_Around_counters ct_Around_counters, f_Around_pay, PySem.W.fnOf "pay" "Around.pay" (defArgs s_Around_pay) (defBody s_Around_pay) (defScope s_Around_pay) .none kV_Around_pay dc_Around_pay pm_Around_pay an_Around_pay cd_Around_pay ct_Around_pay, f_Around_drop, PySem.W.fnOf "drop" "Around.drop" (defArgs s_Around_drop) (defBody s_Around_drop) (defScope s_Around_drop) .none kV_Around_drop dc_Around_drop pm_Around_drop an_Around_drop cd_Around_drop ct_Around_drop, f_Around_take, PySem.W.fnOf "take" "Around.take" (defArgs s_Around_take) (defBody s_Around_take) (defScope s_Around_take) .none kV_Around_take dc_Around_take pm_Around_take an_Around_take cd_Around_take ct_Around_take, f_Around_show, PySem.W.fnOf "show" "Around.show" (defArgs s_Around_show) (defBody s_Around_show) (defScope s_Around_show) .none kV_Around_show dc_Around_show pm_Around_show an_Around_show cd_Around_show ct_Around_show, f_Turn_init, PySem.W.fnOf "__init__" "Turn.__init__" (defArgs s_Turn_init) (defBody s_Turn_init) (defScope s_Turn_init) .none kV_Turn_init dc_Turn_init pm_Turn_init an_Turn_init cd_Turn_init ct_Turn_init, f_Turn_usable, PySem.W.fnOf "usable" "Turn.usable" (defArgs s_Turn_usable) (defBody s_Turn_usable) (defScope s_Turn_usable) .none kV_Turn_usable dc_Turn_usable pm_Turn_usable an_Turn_usable cd_Turn_usable ct_Turn_usable, f_Turn_for_sale, PySem.W.fnOf "for_sale" "Turn.for_sale" (defArgs s_Turn_for_sale) (defBody s_Turn_for_sale) (defScope s_Turn_for_sale) .none kV_Turn_for_sale dc_Turn_for_sale pm_Turn_for_sale an_Turn_for_sale cd_Turn_for_sale ct_Turn_for_sale, f_Turn_can_be_bought, PySem.W.fnOf "can_be_bought" "Turn.can_be_bought" (defArgs s_Turn_can_be_bought) (defBody s_Turn_can_be_bought) (defScope s_Turn_can_be_bought) .none kV_Turn_can_be_bought dc_Turn_can_be_bought pm_Turn_can_be_bought an_Turn_can_be_bought cd_Turn_can_be_bought ct_Turn_can_be_bought, f_Turn_drop, PySem.W.fnOf "drop" "Turn.drop" (defArgs s_Turn_drop) (defBody s_Turn_drop) (defScope s_Turn_drop) .none kV_Turn_drop dc_Turn_drop pm_Turn_drop an_Turn_drop cd_Turn_drop ct_Turn_drop, f_Turn_pay_coin, PySem.W.fnOf "pay_coin" "Turn.pay_coin" (defArgs s_Turn_pay_coin) (defBody s_Turn_pay_coin) (defScope s_Turn_pay_coin) .none kV_Turn_pay_coin dc_Turn_pay_coin pm_Turn_pay_coin an_Turn_pay_coin cd_Turn_pay_coin ct_Turn_pay_coin, f_Turn_pay_coins, PySem.W.fnOf "pay_coins" "Turn.pay_coins" (defArgs s_Turn_pay_coins) (defBody s_Turn_pay_coins) (defScope s_Turn_pay_coins) .none kV_Turn_pay_coins dc_Turn_pay_coins pm_Turn_pay_coins an_Turn_pay_coins cd_Turn_pay_coins ct_Turn_pay_coins, f_Turn_pay_back, PySem.W.fnOf "pay_back" "Turn.pay_back" (defArgs s_Turn_pay_back) (defBody s_Turn_pay_back) (defScope s_Turn_pay_back) .none kV_Turn_pay_back dc_Turn_pay_back pm_Turn_pay_back an_Turn_pay_back cd_Turn_pay_back ct_Turn_pay_back, f_Turn_end, PySem.W.fnOf "end" "Turn.end" (defArgs s_Turn_end) (defBody s_Turn_end) (defScope s_Turn_end) .none kV_Turn_end dc_Turn_end pm_Turn_end an_Turn_end cd_Turn_end ct_Turn_end, f_Reader_init, PySem.W.fnOf "__init__" "Reader.__init__" (defArgs s_Reader_init) (defBody s_Reader_init) (defScope s_Reader_init) .none kV_Reader_init dc_Reader_init pm_Reader_init an_Reader_init cd_Reader_init ct_Reader_init, f_Reader_at_end, PySem.W.fnOf "at_end" "Reader.at_end" (defArgs s_Reader_at_end) (defBody s_Reader_at_end) (defScope s_Reader_at_end) .none kV_Reader_at_end dc_Reader_at_end pm_Reader_at_end an_Reader_at_end cd_Reader_at_end ct_Reader_at_end, f_Reader_number, PySem.W.fnOf "number" "Reader.number" (defArgs s_Reader_number) (defBody s_Reader_number) (defScope s_Reader_number) .none kV_Reader_number dc_Reader_number pm_Reader_number an_Reader_number cd_Reader_number ct_Reader_number, f_Reader_row, PySem.W.fnOf "row" "Reader.row" (defArgs s_Reader_row) (defBody s_Reader_row) (defScope s_Reader_row) .none kV_Reader_row dc_Reader_row pm_Reader_row an_Reader_row cd_Reader_row ct_Reader_row, f_Machine_init, PySem.W.fnOf "__init__" "Machine.__init__" (defArgs s_Machine_init) (defBody s_Machine_init) (defScope s_Machine_init) .none kV_Machine_init dc_Machine_init pm_Machine_init an_Machine_init cd_Machine_init ct_Machine_init, f_Machine_begin, PySem.W.fnOf "begin" "Machine.begin" (defArgs s_Machine_begin) (defBody s_Machine_begin) (defScope s_Machine_begin) .none kV_Machine_begin dc_Machine_begin pm_Machine_begin an_Machine_begin cd_Machine_begin ct_Machine_begin, f_all_within, PySem.W.fnOf "all_within" "all_within" (defArgs s_all_within) (defBody s_all_within) (defScope s_all_within) .none kV_all_within dc_all_within pm_all_within an_all_within cd_all_within ct_all_within, f_is_as_told, PySem.W.fnOf "is_as_told" "is_as_told" (defArgs s_is_as_told) (defBody s_is_as_told) (defScope s_is_as_told) .none kV_is_as_told dc_is_as_told pm_is_as_told an_is_as_told cd_is_as_told ct_is_as_told, f_only_nothing, PySem.W.fnOf "only_nothing" "only_nothing" (defArgs s_only_nothing) (defBody s_only_nothing) (defScope s_only_nothing) .none kV_only_nothing dc_only_nothing pm_only_nothing an_only_nothing cd_only_nothing ct_only_nothing, f_holds, PySem.W.fnOf "holds" "holds" (defArgs s_holds) (defBody s_holds) (defScope s_holds) .none kV_holds dc_holds pm_holds an_holds cd_holds ct_holds, f_greatest, PySem.W.fnOf "greatest" "greatest" (defArgs s_greatest) (defBody s_greatest) (defScope s_greatest) .none kV_greatest dc_greatest pm_greatest an_greatest cd_greatest ct_greatest, f_raised, PySem.W.fnOf "raised" "raised" (defArgs s_raised) (defBody s_raised) (defScope s_raised) .none kV_raised dc_raised pm_raised an_raised cd_raised ct_raised, f_with_kind, PySem.W.fnOf "with_kind" "with_kind" (defArgs s_with_kind) (defBody s_with_kind) (defScope s_with_kind) .none kV_with_kind dc_with_kind pm_with_kind an_with_kind cd_with_kind ct_with_kind, f_tails, PySem.W.fnOf "tails" "tails" (defArgs s_tails) (defBody s_tails) (defScope s_tails) .none kV_tails dc_tails pm_tails an_tails cd_tails ct_tails, f_payable, PySem.W.fnOf "payable" "payable" (defArgs s_payable) (defBody s_payable) (defScope s_payable) .none kV_payable dc_payable pm_payable an_payable cd_payable ct_payable, f_most_coins, PySem.W.fnOf "most_coins" "most_coins" (defArgs s_most_coins) (defBody s_most_coins) (defScope s_most_coins) .none kV_most_coins dc_most_coins pm_most_coins an_most_coins cd_most_coins ct_most_coins, f_payment_back, PySem.W.fnOf "payment_back" "payment_back" (defArgs s_payment_back) (defBody s_payment_back) (defScope s_payment_back) .none kV_payment_back dc_payment_back pm_payment_back an_payment_back cd_payment_back ct_payment_back, f_since, PySem.W.fnOf "since" "since" (defArgs s_since) (defBody s_since) (defScope s_since) .none kV_since dc_since pm_since an_since cd_since ct_since, f_worth, PySem.W.fnOf "worth" "worth" (defArgs s_worth) (defBody s_worth) (defScope s_worth) .none kV_worth dc_worth pm_worth an_worth cd_worth ct_worth, f_bits, PySem.W.fnOf "bits" "bits" (defArgs s_bits) (defBody s_bits) (defScope s_bits) .none kV_bits dc_bits pm_bits an_bits cd_bits ct_bits, f_refusal, PySem.W.fnOf "refusal" "refusal" (defArgs s_refusal) (defBody s_refusal) (defScope s_refusal) .none kV_refusal dc_refusal pm_refusal an_refusal cd_refusal ct_refusal, f_start, PySem.W.fnOf "start" "start" (defArgs s_start) (defBody s_start) (defScope s_start) .none kV_start dc_start pm_start an_start cd_start ct_start, f_press, PySem.W.fnOf "press" "press" (defArgs s_press) (defBody s_press) (defScope s_press) .none kV_press dc_press pm_press an_press cd_press ct_press, f_sell, PySem.W.fnOf "sell" "sell" (defArgs s_sell) (defBody s_sell) (defScope s_sell) .none kV_sell dc_sell pm_sell an_sell cd_sell ct_sell, f_cancel, PySem.W.fnOf "cancel" "cancel" (defArgs s_cancel) (defBody s_cancel) (defScope s_cancel) .none kV_cancel dc_cancel pm_cancel an_cancel cd_cancel ct_cancel, f_tick, PySem.W.fnOf "tick" "tick" (defArgs s_tick) (defBody s_tick) (defScope s_tick) .none kV_tick dc_tick pm_tick an_tick cd_tick ct_tick, f_answer_call, PySem.W.fnOf "answer_call" "answer_call" (defArgs s_answer_call) (defBody s_answer_call) (defScope s_answer_call) .none kV_answer_call dc_answer_call pm_answer_call an_answer_call cd_answer_call ct_answer_call, f_answers, PySem.W.fnOf "answers" "answers" (defArgs s_answers) (defBody s_answers) (defScope s_answers) .none kV_answers dc_answers pm_answers an_answers cd_answers ct_answers⟩, ?_, PySem.W.mg_of X G a_answers, fun s us hu => match us, hu with | [_], _ => .of_eq rfl⟩
  exact {
    cl_Setup := ⟨pg_Setup, hd_Setup, po_Setup, sa_Setup⟩
    mk_Setup := ⟨mk_Setup, a_Setup_init, i_Setup_init, kc_Setup⟩
    mg_Setup := PySem.W.mg_of X G aC_Setup
    no_Setup_kinds := no_Setup_kinds
    no_Setup_slots := no_Setup_slots
    no_Setup_most := no_Setup_most
    no_Setup_none := no_Setup_none
    no_Setup_value := no_Setup_value
    no_Setup_tube := no_Setup_tube
    no_Setup_price := no_Setup_price
    no_Setup_stock := no_Setup_stock
    no_Setup_in0 := no_Setup_in0
    no_Setup_out0 := no_Setup_out0
    no_Setup_fell0 := no_Setup_fell0
    cl_Around := ⟨pg_Around, hd_Around, po_Around, sa_Around⟩
    mk_Around := ⟨mk_Around, a_Around_init, i_Around_init, kc_Around⟩
    mg_Around := PySem.W.mg_of X G aC_Around
    no_Around_told := no_Around_told
    no_Around_heard := no_Around_heard
    no_Around_times := no_Around_times
    no_Around_asked := no_Around_asked
    cl_Turn := ⟨pg_Turn, hd_Turn, po_Turn, sa_Turn⟩
    mk_Turn := ⟨mk_Turn, a_Turn_init, i_Turn_init, kc_Turn⟩
    mg_Turn := PySem.W.mg_of X G aC_Turn
    no_Turn_machine := no_Turn_machine
    no_Turn_around := no_Turn_around
    no_Turn_value := no_Turn_value
    no_Turn_at_hand := no_Turn_at_hand
    no_Turn_left := no_Turn_left
    no_Turn_credit := no_Turn_credit
    cl_Reader := ⟨pg_Reader, hd_Reader, po_Reader, sa_Reader⟩
    mk_Reader := ⟨mk_Reader, a_Reader_init, i_Reader_init, kc_Reader⟩
    mg_Reader := PySem.W.mg_of X G aC_Reader
    no_Reader_numbers := no_Reader_numbers
    no_Reader_place := no_Reader_place
    cl_Machine := ⟨pg_Machine, hd_Machine, po_Machine, sa_Machine⟩
    mk_Machine := ⟨mk_Machine, a_Machine_init, i_Machine_init, kc_Machine⟩
    mg_Machine := PySem.W.mg_of X G aC_Machine
    no_Machine_setup := no_Machine_setup
    no_Machine_stuck := no_Machine_stuck
    no_Machine_failed := no_Machine_failed
    F_Setup_init := F_Setup_init
    b_Setup_init := F_Setup_init.binds (ps := ["self", "reader"]) fun _ _ _ _ _ _ us hl => match us, hl with | [_, _], _ => rfl
    F_Around_init := F_Around_init
    b_Around_init := F_Around_init.binds (ps := ["self", "told"]) fun _ _ _ _ _ _ us hl => match us, hl with | [_, _], _ => rfl
    F_Around_note := F_Around_note
    b_Around_note := F_Around_note.binds (ps := ["self", "numbers"]) fun _ _ _ _ _ _ us hl => match us, hl with | [_, _], _ => rfl
    me_Around_note := ⟨a_Around_note, i_Around_note, k_Around_note⟩
    F_Around_ask := F_Around_ask
    b_Around_ask := F_Around_ask.binds (ps := ["self", "function", "which"]) fun _ _ _ _ _ _ us hl => match us, hl with | [_, _, _], _ => rfl
    me_Around_ask := ⟨a_Around_ask, i_Around_ask, k_Around_ask⟩
    F_Around_counters := F_Around_counters
    b_Around_counters := F_Around_counters.binds (ps := ["self", "function", "count"]) fun _ _ _ _ _ _ us hl => match us, hl with | [_, _, _], _ => rfl
    me_Around_counters := ⟨a_Around_counters, i_Around_counters, k_Around_counters⟩
    F_Around_pay := F_Around_pay
    b_Around_pay := F_Around_pay.binds (ps := ["self", "kind"]) fun _ _ _ _ _ _ us hl => match us, hl with | [_, _], _ => rfl
    me_Around_pay := ⟨a_Around_pay, i_Around_pay, k_Around_pay⟩
    F_Around_drop := F_Around_drop
    b_Around_drop := F_Around_drop.binds (ps := ["self", "slot"]) fun _ _ _ _ _ _ us hl => match us, hl with | [_, _], _ => rfl
    me_Around_drop := ⟨a_Around_drop, i_Around_drop, k_Around_drop⟩
    F_Around_take := F_Around_take
    b_Around_take := F_Around_take.binds (ps := ["self", "kinds"]) fun _ _ _ _ _ _ us hl => match us, hl with | [_, _], _ => rfl
    me_Around_take := ⟨a_Around_take, i_Around_take, k_Around_take⟩
    F_Around_show := F_Around_show
    b_Around_show := F_Around_show.binds (ps := ["self", "amount", "slots"]) fun _ _ _ _ _ _ us hl => match us, hl with | [_, _, _], _ => rfl
    me_Around_show := ⟨a_Around_show, i_Around_show, k_Around_show⟩
    F_Turn_init := F_Turn_init
    b_Turn_init := F_Turn_init.binds (ps := ["self", "machine", "told"]) fun _ _ _ _ _ _ us hl => match us, hl with | [_, _, _], _ => rfl
    F_Turn_usable := F_Turn_usable
    b_Turn_usable := F_Turn_usable.binds (ps := ["self"]) fun _ _ _ _ _ _ us hl => match us, hl with | [_], _ => rfl
    me_Turn_usable := ⟨a_Turn_usable, i_Turn_usable, k_Turn_usable⟩
    F_Turn_for_sale := F_Turn_for_sale
    b_Turn_for_sale := F_Turn_for_sale.binds (ps := ["self"]) fun _ _ _ _ _ _ us hl => match us, hl with | [_], _ => rfl
    me_Turn_for_sale := ⟨a_Turn_for_sale, i_Turn_for_sale, k_Turn_for_sale⟩
    F_Turn_can_be_bought := F_Turn_can_be_bought
    b_Turn_can_be_bought := F_Turn_can_be_bought.binds (ps := ["self", "slot", "change"]) fun _ _ _ _ _ _ us hl => match us, hl with | [_, _, _], _ => rfl
    me_Turn_can_be_bought := ⟨a_Turn_can_be_bought, i_Turn_can_be_bought, k_Turn_can_be_bought⟩
    F_Turn_drop := F_Turn_drop
    b_Turn_drop := F_Turn_drop.binds (ps := ["self", "slot"]) fun _ _ _ _ _ _ us hl => match us, hl with | [_, _], _ => rfl
    me_Turn_drop := ⟨a_Turn_drop, i_Turn_drop, k_Turn_drop⟩
    F_Turn_pay_coin := F_Turn_pay_coin
    b_Turn_pay_coin := F_Turn_pay_coin.binds (ps := ["self", "kind"]) fun _ _ _ _ _ _ us hl => match us, hl with | [_, _], _ => rfl
    me_Turn_pay_coin := ⟨a_Turn_pay_coin, i_Turn_pay_coin, k_Turn_pay_coin⟩
    F_Turn_pay_coins := F_Turn_pay_coins
    b_Turn_pay_coins := F_Turn_pay_coins.binds (ps := ["self", "payment"]) fun _ _ _ _ _ _ us hl => match us, hl with | [_, _], _ => rfl
    me_Turn_pay_coins := ⟨a_Turn_pay_coins, i_Turn_pay_coins, k_Turn_pay_coins⟩
    F_Turn_pay_back := F_Turn_pay_back
    b_Turn_pay_back := F_Turn_pay_back.binds (ps := ["self"]) fun _ _ _ _ _ _ us hl => match us, hl with | [_], _ => rfl
    me_Turn_pay_back := ⟨a_Turn_pay_back, i_Turn_pay_back, k_Turn_pay_back⟩
    F_Turn_end := F_Turn_end
    b_Turn_end := F_Turn_end.binds (ps := ["self", "number"]) fun _ _ _ _ _ _ us hl => match us, hl with | [_, _], _ => rfl
    me_Turn_end := ⟨a_Turn_end, i_Turn_end, k_Turn_end⟩
    F_Reader_init := F_Reader_init
    b_Reader_init := F_Reader_init.binds (ps := ["self", "numbers"]) fun _ _ _ _ _ _ us hl => match us, hl with | [_, _], _ => rfl
    F_Reader_at_end := F_Reader_at_end
    b_Reader_at_end := F_Reader_at_end.binds (ps := ["self"]) fun _ _ _ _ _ _ us hl => match us, hl with | [_], _ => rfl
    me_Reader_at_end := ⟨a_Reader_at_end, i_Reader_at_end, k_Reader_at_end⟩
    F_Reader_number := F_Reader_number
    b_Reader_number := F_Reader_number.binds (ps := ["self"]) fun _ _ _ _ _ _ us hl => match us, hl with | [_], _ => rfl
    me_Reader_number := ⟨a_Reader_number, i_Reader_number, k_Reader_number⟩
    F_Reader_row := F_Reader_row
    b_Reader_row := F_Reader_row.binds (ps := ["self"]) fun _ _ _ _ _ _ us hl => match us, hl with | [_], _ => rfl
    me_Reader_row := ⟨a_Reader_row, i_Reader_row, k_Reader_row⟩
    F_Machine_init := F_Machine_init
    b_Machine_init := F_Machine_init.binds (ps := ["self"]) fun _ _ _ _ _ _ us hl => match us, hl with | [_], _ => rfl
    F_Machine_begin := F_Machine_begin
    b_Machine_begin := F_Machine_begin.binds (ps := ["self", "setup"]) fun _ _ _ _ _ _ us hl => match us, hl with | [_, _], _ => rfl
    me_Machine_begin := ⟨a_Machine_begin, i_Machine_begin, k_Machine_begin⟩
    F_all_within := F_all_within
    b_all_within := F_all_within.binds (ps := ["numbers", "least", "most"]) fun _ _ _ _ _ _ us hl => match us, hl with | [_, _, _], _ => rfl
    mg_all_within := PySem.W.mg_of X G a_all_within
    F_is_as_told := F_is_as_told
    b_is_as_told := F_is_as_told.binds (ps := ["setup"]) fun _ _ _ _ _ _ us hl => match us, hl with | [_], _ => rfl
    mg_is_as_told := PySem.W.mg_of X G a_is_as_told
    F_only_nothing := F_only_nothing
    b_only_nothing := F_only_nothing.binds (ps := ["limit"]) fun _ _ _ _ _ _ us hl => match us, hl with | [_], _ => rfl
    mg_only_nothing := PySem.W.mg_of X G a_only_nothing
    F_holds := F_holds
    b_holds := F_holds.binds (ps := ["words", "amount"]) fun _ _ _ _ _ _ us hl => match us, hl with | [_, _], _ => rfl
    mg_holds := PySem.W.mg_of X G a_holds
    F_greatest := F_greatest
    b_greatest := F_greatest.binds (ps := ["words", "limit"]) fun _ _ _ _ _ _ us hl => match us, hl with | [_, _], _ => rfl
    mg_greatest := PySem.W.mg_of X G a_greatest
    F_raised := F_raised
    b_raised := F_raised.binds (ps := ["words", "more"]) fun _ _ _ _ _ _ us hl => match us, hl with | [_, _], _ => rfl
    mg_raised := PySem.W.mg_of X G a_raised
    F_with_kind := F_with_kind
    b_with_kind := F_with_kind.binds (ps := ["words", "value", "count"]) fun _ _ _ _ _ _ us hl => match us, hl with | [_, _, _], _ => rfl
    mg_with_kind := PySem.W.mg_of X G a_with_kind
    F_tails := F_tails
    b_tails := F_tails.binds (ps := ["value", "count", "limit"]) fun _ _ _ _ _ _ us hl => match us, hl with | [_, _, _], _ => rfl
    mg_tails := PySem.W.mg_of X G a_tails
    F_payable := F_payable
    b_payable := F_payable.binds (ps := ["value", "count", "limit"]) fun _ _ _ _ _ _ us hl => match us, hl with | [_, _, _], _ => rfl
    mg_payable := PySem.W.mg_of X G a_payable
    F_most_coins := F_most_coins
    b_most_coins := F_most_coins.binds (ps := ["tail", "value", "count", "amount"]) fun _ _ _ _ _ _ us hl => match us, hl with | [_, _, _, _], _ => rfl
    mg_most_coins := PySem.W.mg_of X G a_most_coins
    F_payment_back := F_payment_back
    b_payment_back := F_payment_back.binds (ps := ["value", "count", "credit"]) fun _ _ _ _ _ _ us hl => match us, hl with | [_, _, _], _ => rfl
    mg_payment_back := PySem.W.mg_of X G a_payment_back
    F_since := F_since
    b_since := F_since.binds (ps := ["now", "before"]) fun _ _ _ _ _ _ us hl => match us, hl with | [_, _], _ => rfl
    mg_since := PySem.W.mg_of X G a_since
    F_worth := F_worth
    b_worth := F_worth.binds (ps := ["price", "count"]) fun _ _ _ _ _ _ us hl => match us, hl with | [_, _], _ => rfl
    mg_worth := PySem.W.mg_of X G a_worth
    F_bits := F_bits
    b_bits := F_bits.binds (ps := ["marks"]) fun _ _ _ _ _ _ us hl => match us, hl with | [_], _ => rfl
    mg_bits := PySem.W.mg_of X G a_bits
    F_refusal := F_refusal
    b_refusal := F_refusal.binds (ps := []) fun _ _ _ _ _ _ us hl => match us, hl with | [], _ => rfl
    mg_refusal := PySem.W.mg_of X G a_refusal
    F_start := F_start
    b_start := F_start.binds (ps := ["machine", "setup", "told"]) fun _ _ _ _ _ _ us hl => match us, hl with | [_, _, _], _ => rfl
    mg_start := PySem.W.mg_of X G a_start
    F_press := F_press
    b_press := F_press.binds (ps := ["machine", "slot", "told"]) fun _ _ _ _ _ _ us hl => match us, hl with | [_, _, _], _ => rfl
    mg_press := PySem.W.mg_of X G a_press
    F_sell := F_sell
    b_sell := F_sell.binds (ps := ["turn", "slot"]) fun _ _ _ _ _ _ us hl => match us, hl with | [_, _], _ => rfl
    mg_sell := PySem.W.mg_of X G a_sell
    F_cancel := F_cancel
    b_cancel := F_cancel.binds (ps := ["machine", "told"]) fun _ _ _ _ _ _ us hl => match us, hl with | [_, _], _ => rfl
    mg_cancel := PySem.W.mg_of X G a_cancel
    F_tick := F_tick
    b_tick := F_tick.binds (ps := ["machine", "told"]) fun _ _ _ _ _ _ us hl => match us, hl with | [_, _], _ => rfl
    mg_tick := PySem.W.mg_of X G a_tick
    F_answer_call := F_answer_call
    b_answer_call := F_answer_call.binds (ps := ["machine", "reader"]) fun _ _ _ _ _ _ us hl => match us, hl with | [_, _], _ => rfl
    mg_answer_call := PySem.W.mg_of X G a_answer_call
    F_answers := F_answers
    b_answers := F_answers.binds (ps := ["calls"]) fun _ _ _ _ _ _ us hl => match us, hl with | [_], _ => rfl
    mg_answers := PySem.W.mg_of X G a_answers
    g_WIDTH := ⟨t_WIDTH, PySem.W.mg_of X G g_WIDTH⟩
    g_TAKE := ⟨t_TAKE, PySem.W.mg_of X G g_TAKE⟩
    g_IN := ⟨t_IN, PySem.W.mg_of X G g_IN⟩
    g_OUT := ⟨t_OUT, PySem.W.mg_of X G g_OUT⟩
    g_FELL := ⟨t_FELL, PySem.W.mg_of X G g_FELL⟩
    g_PAY := ⟨t_PAY, PySem.W.mg_of X G g_PAY⟩
    g_DROP := ⟨t_DROP, PySem.W.mg_of X G g_DROP⟩
    g_SHOW := ⟨t_SHOW, PySem.W.mg_of X G g_SHOW⟩
    g_START := ⟨t_START, PySem.W.mg_of X G g_START⟩
    g_PRESS := ⟨t_PRESS, PySem.W.mg_of X G g_PRESS⟩
    g_CANCEL := ⟨t_CANCEL, PySem.W.mg_of X G g_CANCEL⟩
    g_WRONG := ⟨t_WRONG, PySem.W.mg_of X G g_WRONG⟩
    g_NOT_FOR_SALE := ⟨t_NOT_FOR_SALE, PySem.W.mg_of X G g_NOT_FOR_SALE⟩
    g_DID_NOT_FALL := ⟨t_DID_NOT_FALL, PySem.W.mg_of X G g_DID_NOT_FALL⟩
    n_all := PySem.W.mg_none_of X G n_all
    n_sum := PySem.W.mg_none_of X G n_sum
    n_zip := PySem.W.mg_none_of X G n_zip
    n_range := PySem.W.mg_none_of X G n_range
    n_enumerate := PySem.W.mg_none_of X G n_enumerate
    n_len := PySem.W.mg_none_of X G n_len
    n_min := PySem.W.mg_none_of X G n_min
  }
end Hs
set_option Elab.async false
namespace PySem.W.Fast
/- The head would write a second spelling, with an equation, of each object that it lays out: 40 MB that the kernel does not need here, and a compiled hand-in may not be that large. It writes none where the equation's name is taken; so these names are taken, by nothing. -/
theorem te3686969288147224947 : True := trivial
theorem te350493906565729842 : True := trivial
theorem te332075420795438214 : True := trivial
theorem te5380366025055168162 : True := trivial
theorem te13329363200358771303 : True := trivial
theorem te8652007461087427195 : True := trivial
theorem te16209276668924297982 : True := trivial
theorem te9584359762933904245 : True := trivial
theorem te12949352412412119026 : True := trivial
theorem te18191746197734339838 : True := trivial
theorem te17302016749893979502 : True := trivial
theorem te14482452770430277072 : True := trivial
theorem te670393941909566342 : True := trivial
theorem te3893647188205023610 : True := trivial
theorem te2610986228919485539 : True := trivial
theorem te15904480932742681243 : True := trivial
theorem te5627111919496972603 : True := trivial
theorem te9881109339431865080 : True := trivial
theorem te16863161147727245759 : True := trivial
theorem te4374748637841099587 : True := trivial
theorem te14518913375665052325 : True := trivial
theorem te4324723646000738145 : True := trivial
theorem te4516894029940899505 : True := trivial
theorem te6817578968477391727 : True := trivial
theorem te8581891409338035968 : True := trivial
theorem te16189911227362722595 : True := trivial
theorem te8676561368552281427 : True := trivial
theorem te7661803121191313844 : True := trivial
theorem te16354599705218368822 : True := trivial
theorem te7179805860700242650 : True := trivial
theorem te1467443607375973754 : True := trivial
theorem te3108238779541635687 : True := trivial
theorem te14505388771324158226 : True := trivial
theorem te17151815514830509582 : True := trivial
theorem te10254062019888539164 : True := trivial
theorem te11898119057838927743 : True := trivial
theorem te4486994265555000800 : True := trivial
theorem te1433959439123590004 : True := trivial
theorem te5286851225980800679 : True := trivial
theorem te16220734625276905835 : True := trivial
theorem te3686928048298422163 : True := trivial
theorem te10699746443655930319 : True := trivial
theorem te3717552555102541542 : True := trivial
theorem te16087447994023944873 : True := trivial
theorem te12503436107736557870 : True := trivial
theorem te5301262370921722069 : True := trivial
theorem te15007336482922115970 : True := trivial
theorem te11771683404205105387 : True := trivial
theorem te3003627310131522208 : True := trivial
theorem te7237214844904660230 : True := trivial
theorem te4054942820958006684 : True := trivial
theorem te13594912230255292474 : True := trivial
theorem te11513974810685296455 : True := trivial
theorem te7119309815067415638 : True := trivial
theorem te15493114726034928689 : True := trivial
theorem te2779473675693790362 : True := trivial
theorem te10419448682971421909 : True := trivial
theorem te190508876965729631 : True := trivial
theorem te10058590949893763074 : True := trivial
theorem te282134486467982767 : True := trivial
theorem te1718858770106210305 : True := trivial
theorem te12382266360975354562 : True := trivial
theorem te6740368152231080400 : True := trivial
theorem te3684053792573112136 : True := trivial
theorem te2476259032371169841 : True := trivial
theorem te1413861873528989619 : True := trivial
theorem te883151946354092487 : True := trivial
theorem te1311198560682726006 : True := trivial
theorem te4022421570650679684 : True := trivial
theorem te17748244652585910900 : True := trivial
theorem te15072543172085503070 : True := trivial
theorem te14860739274611971095 : True := trivial
theorem te1444552196932543205 : True := trivial
theorem te7121088784915202416 : True := trivial
theorem te13436250798047081023 : True := trivial
theorem te17049773730955303089 : True := trivial
theorem te899632061281191707 : True := trivial
theorem te7498286594798995196 : True := trivial
theorem te10046077261907272962 : True := trivial
theorem te18320966898372502961 : True := trivial
theorem te7871795774763449966 : True := trivial
theorem te8445626677600934195 : True := trivial
theorem te16796372430912460449 : True := trivial
theorem te10725069019616353276 : True := trivial
theorem te14020933211090586138 : True := trivial
theorem te5124090404886088219 : True := trivial
theorem te11489285382266243606 : True := trivial
theorem te17896062793280807679 : True := trivial
theorem te4290533020815902935 : True := trivial
theorem te12362854146981371505 : True := trivial
theorem te15480469311150594734 : True := trivial
theorem te15997453345589432686 : True := trivial
theorem te15354054608957580620 : True := trivial
theorem te17489301423909778934 : True := trivial
theorem te1370723275824932079 : True := trivial
theorem te14011011649838710001 : True := trivial
theorem te10835156446796420675 : True := trivial
theorem te6669435861117431263 : True := trivial
theorem te5513265127364591350 : True := trivial
theorem te14936136520633701714 : True := trivial
theorem te10354627896339144203 : True := trivial
theorem te8932804759120597188 : True := trivial
theorem te1994808893797467662 : True := trivial
theorem te9248691437073172041 : True := trivial
theorem te9959123556094137536 : True := trivial
theorem te3886328880516264305 : True := trivial
theorem te10886920573408765618 : True := trivial
theorem te6432984131375067838 : True := trivial
theorem te167509090936622071 : True := trivial
theorem te6170621791377592565 : True := trivial
theorem te13330893780864068510 : True := trivial
theorem te16637433798168841612 : True := trivial
theorem te375615832311225561 : True := trivial
theorem te1359550198921148886 : True := trivial
theorem te6368413449091276262 : True := trivial
theorem te776811692090220306 : True := trivial
theorem te28132923619645077 : True := trivial
theorem te16374821032623573668 : True := trivial
theorem te18113308535129895578 : True := trivial
theorem te13114973400102919375 : True := trivial
theorem te18274032645941550958 : True := trivial
theorem te13619874684718626423 : True := trivial
theorem te17129258911613887 : True := trivial
theorem te18112841877056748897 : True := trivial
theorem te14376872094170307615 : True := trivial
theorem te13425627473970797418 : True := trivial
theorem te7905728465598114737 : True := trivial
theorem te5795387015500913199 : True := trivial
theorem te3048410979721663184 : True := trivial
theorem te11681182225821803756 : True := trivial
theorem te9249614190215374007 : True := trivial
theorem te7804382604584189541 : True := trivial
theorem te4035980813087347506 : True := trivial
theorem te9941495105196269316 : True := trivial
theorem te5143064382742708463 : True := trivial
theorem te257987146546152082 : True := trivial
theorem te5277400964877975095 : True := trivial
theorem te4056611544054086508 : True := trivial
theorem te8253176782118262336 : True := trivial
theorem te13592999803174072784 : True := trivial
theorem te9994176616418681359 : True := trivial
theorem te9617461396280241565 : True := trivial
theorem te5453483187743557594 : True := trivial
theorem te9108381571343699005 : True := trivial
theorem te17557583581986533397 : True := trivial
theorem te6073011466118369042 : True := trivial
theorem te18145740842945109562 : True := trivial
theorem te1392706994676853866 : True := trivial
theorem te16822525685623807966 : True := trivial
theorem te7805340488421267658 : True := trivial
theorem te15928287227596246327 : True := trivial
theorem te1967169608770929191 : True := trivial
theorem te7451250146038786762 : True := trivial
theorem te1363968756872971695 : True := trivial
theorem te11667171296427740016 : True := trivial
theorem te1524777987379920684 : True := trivial
theorem te2686430968823956095 : True := trivial
theorem te3362247660259629507 : True := trivial
theorem te7480627959464592348 : True := trivial
theorem te8412725575908492223 : True := trivial
theorem te13146476498881515962 : True := trivial
theorem te14502035118871174254 : True := trivial
theorem te1111047025408193185 : True := trivial
theorem te5049410995949700764 : True := trivial
theorem te16421350650931431171 : True := trivial
theorem te13903966758675047528 : True := trivial
theorem te975920638727475047 : True := trivial
theorem te12953158399752216409 : True := trivial
theorem te10321417097945020275 : True := trivial
theorem te7826814631986540917 : True := trivial
theorem te2513590144371738560 : True := trivial
theorem te11335615560881434561 : True := trivial
theorem te17240118758633027844 : True := trivial
theorem te1868684255335224393 : True := trivial
theorem te5346804762267590621 : True := trivial
theorem te3543820547607862673 : True := trivial
theorem te10512462710343069147 : True := trivial
theorem te4985860007264604434 : True := trivial
theorem te14206472689460202793 : True := trivial
theorem te2154442170429063115 : True := trivial
theorem te16566068150221006848 : True := trivial
theorem te12577527732661942212 : True := trivial
theorem te6013292759824928032 : True := trivial
theorem te4347492423339390843 : True := trivial
theorem te3872295016487230699 : True := trivial
theorem te7252260463025083710 : True := trivial
theorem te10418220452448902040 : True := trivial
theorem te18054391818000459563 : True := trivial
theorem te14103822954392754830 : True := trivial
theorem te13831686428769324321 : True := trivial
theorem te18302948125770217453 : True := trivial
theorem te8432322073646551148 : True := trivial
theorem te5517692732754503404 : True := trivial
theorem te9678962605639898713 : True := trivial
theorem te14900864549855381986 : True := trivial
theorem te1901819176174198397 : True := trivial
theorem te17794072520943021473 : True := trivial
theorem te10900065447764041226 : True := trivial
theorem te5513654977212703817 : True := trivial
theorem te17789193027147146234 : True := trivial
theorem te13299199220578558987 : True := trivial
theorem te5110577861986578719 : True := trivial
theorem te8723754213379991819 : True := trivial
theorem te10085011576820318477 : True := trivial
theorem te13458942508739980101 : True := trivial
theorem te10261142323186830284 : True := trivial
theorem te9400039421042685764 : True := trivial
theorem te2404012629852558476 : True := trivial
theorem te6616409882731586105 : True := trivial
theorem te11644637983730348550 : True := trivial
theorem te2102373955328680591 : True := trivial
theorem te320489814484538082 : True := trivial
theorem te3524671329265556723 : True := trivial
theorem te16932316853593173925 : True := trivial
theorem te8774104167392985185 : True := trivial
theorem te12108260178697599200 : True := trivial
theorem te14598534773089063064 : True := trivial
theorem te5782169126274115481 : True := trivial
theorem te12227480960243994727 : True := trivial
theorem te10845174722729266881 : True := trivial
theorem te443349930314921397 : True := trivial
theorem te14370003220916180712 : True := trivial
theorem te7452884569858313999 : True := trivial
theorem te7070294921420672776 : True := trivial
theorem te3542379586925337462 : True := trivial
theorem te17240440609741237560 : True := trivial
theorem te12843177675912999723 : True := trivial
theorem te10009179798045481437 : True := trivial
theorem te5628973664695567797 : True := trivial
theorem te10360896476644078834 : True := trivial
theorem te92305923880028946 : True := trivial
theorem te5925078301413890508 : True := trivial
theorem te16089869577431834374 : True := trivial
theorem te9792880411982204893 : True := trivial
theorem te2180712474943524644 : True := trivial
theorem te10852387433304117053 : True := trivial
theorem te9754325868995451564 : True := trivial
theorem te16706615513644085787 : True := trivial
theorem te9547905640036740247 : True := trivial
theorem te14682341323965100855 : True := trivial
theorem te2669785113884748480 : True := trivial
theorem te4107945771956597950 : True := trivial
theorem te17436668463907915317 : True := trivial
theorem te6167063532283567557 : True := trivial
theorem te11353618124537256630 : True := trivial
theorem te17871661653586036638 : True := trivial
theorem te3909002052145707470 : True := trivial
theorem te9726439312392332800 : True := trivial
theorem te6906194356954008599 : True := trivial
theorem te2614582671929445032 : True := trivial
theorem te9274067603205161236 : True := trivial
theorem te5769563913814814910 : True := trivial
theorem te15872158516304760500 : True := trivial
theorem te4995366427596594924 : True := trivial
theorem te17887473072940175418 : True := trivial
theorem te4867424998183474807 : True := trivial
theorem te13821898809586078865 : True := trivial
theorem te11881545859658383819 : True := trivial
theorem te8844344771222442263 : True := trivial
theorem te9324766885014337616 : True := trivial
theorem te5079722460068838764 : True := trivial
theorem te9304281523558866423 : True := trivial
theorem te15741370346750078420 : True := trivial
theorem te15090758836991383096 : True := trivial
theorem te4054796445756733896 : True := trivial
theorem te6429476448111902871 : True := trivial
theorem te7198802877652518852 : True := trivial
theorem te3552741385120801301 : True := trivial
theorem te2288021311928633480 : True := trivial
theorem te14532247023537458974 : True := trivial
theorem te6455717527950962870 : True := trivial
theorem te12468875401652941922 : True := trivial
theorem te4209087409558601240 : True := trivial
theorem te259083537772101838 : True := trivial
theorem te16021950393992689973 : True := trivial
theorem te7551626974902019854 : True := trivial
theorem te16589622910421015653 : True := trivial
theorem te14743711325844681591 : True := trivial
theorem te2047154470968532237 : True := trivial
theorem te10460554028748256273 : True := trivial
theorem te12145360042813624238 : True := trivial
theorem te3093602988902207922 : True := trivial
theorem te1561376612904388779 : True := trivial
theorem te16791977473318881265 : True := trivial
theorem te11517175972368902726 : True := trivial
theorem te11741772174655126289 : True := trivial
theorem te3848695361341090885 : True := trivial
theorem te5323653194372586091 : True := trivial
theorem te7166269524350217174 : True := trivial
theorem te10387790840353590050 : True := trivial
theorem te3610734165281916220 : True := trivial
theorem te2544124922853179315 : True := trivial
theorem te4855524406345221577 : True := trivial
theorem te2979629002007743790 : True := trivial
theorem te10536060891410179383 : True := trivial
theorem te2619791720988115565 : True := trivial
theorem te7567490054360135721 : True := trivial
theorem te9366908216288947200 : True := trivial
theorem te15003074026455296792 : True := trivial
theorem te9632566879311048550 : True := trivial
theorem te15155904500756994984 : True := trivial
theorem te12063567453108503229 : True := trivial
theorem te12783320697900244690 : True := trivial
theorem te1955895458196861995 : True := trivial
theorem te10403685470482507492 : True := trivial
theorem te5906801851223634076 : True := trivial
theorem te8278572895691229450 : True := trivial
theorem te257765565999119038 : True := trivial
theorem te994361520473752623 : True := trivial
theorem te9640132914594294295 : True := trivial
theorem te16930941054094843159 : True := trivial
theorem te6522322307926290525 : True := trivial
theorem te12218023420942835977 : True := trivial
theorem te421805252135736265 : True := trivial
theorem te6967007956880767287 : True := trivial
theorem te2435432081374857075 : True := trivial
theorem te10900675670571502265 : True := trivial
theorem te6340725263753361858 : True := trivial
theorem te1971444351261197580 : True := trivial
theorem te7897800281111580734 : True := trivial
theorem te7417096006957582774 : True := trivial
theorem te9105928675740998998 : True := trivial
theorem te15617095256855606705 : True := trivial
theorem te11165760372153813350 : True := trivial
theorem te6874991868407904369 : True := trivial
theorem te3042401119471788493 : True := trivial
theorem te14521332425914879398 : True := trivial
theorem te2837269173701312704 : True := trivial
theorem te16368663900305206399 : True := trivial
theorem te18321180220087003444 : True := trivial
theorem te11636692784997982194 : True := trivial
theorem te3459483518921890603 : True := trivial
theorem te17694613256018047045 : True := trivial
theorem te10625202882526987382 : True := trivial
theorem te14772558763176929452 : True := trivial
theorem te15383697375194626347 : True := trivial
theorem te1571096489687490277 : True := trivial
theorem te15820147771328636371 : True := trivial
theorem te10102150255387727682 : True := trivial
theorem te10648072386350123778 : True := trivial
theorem te14469833643961663687 : True := trivial
theorem te155062908978777662 : True := trivial
theorem te11241302115725457557 : True := trivial
theorem te12438188882613653788 : True := trivial
theorem te3796610078929521137 : True := trivial
theorem te12646164669859499566 : True := trivial
theorem te17316619609564235078 : True := trivial
theorem te10712788068476339371 : True := trivial
theorem te7822772768048681653 : True := trivial
theorem te18087700954398406 : True := trivial
theorem te18241050770607046150 : True := trivial
theorem te14875184195626319665 : True := trivial
theorem te11381701109312529124 : True := trivial
theorem te15550598220740850045 : True := trivial
theorem te3290017742315387973 : True := trivial
theorem te17738356054203933551 : True := trivial
theorem te15746657451919204391 : True := trivial
theorem te2392646391375369966 : True := trivial
theorem te17202967176310992887 : True := trivial
theorem te3538706291099847796 : True := trivial
theorem te1251736181379628422 : True := trivial
theorem te4583615223420746139 : True := trivial
theorem te2668176363294331657 : True := trivial
theorem te5342977783320593014 : True := trivial
theorem te15575118438598981498 : True := trivial
theorem te18411112518125947732 : True := trivial
theorem te4588839004789342785 : True := trivial
theorem te10095307656803946503 : True := trivial
theorem te10748476560795252556 : True := trivial
theorem te15578617792375028159 : True := trivial
theorem te18423676161310125865 : True := trivial
theorem te10492931783733209726 : True := trivial
theorem te13684158915339148222 : True := trivial
theorem te5379786271875979151 : True := trivial
theorem te373644373917368662 : True := trivial
theorem te9968505647153414408 : True := trivial
theorem te721898784277902795 : True := trivial
theorem te8455390766453236885 : True := trivial
theorem te11484927119474927336 : True := trivial
theorem te9351959677353632094 : True := trivial
theorem te4340040208355453779 : True := trivial
theorem te5578189976536428205 : True := trivial
theorem te16771649550865663753 : True := trivial
theorem te8467497633688227354 : True := trivial
theorem te520850585475649450 : True := trivial
theorem te14217395355228832039 : True := trivial
theorem te14151673683811408315 : True := trivial
theorem te15876538924824121683 : True := trivial
theorem te12755713069218468673 : True := trivial
theorem te16893229305845234476 : True := trivial
theorem te2272065672451713329 : True := trivial
theorem te16043820280530297706 : True := trivial
theorem te4688190592830831011 : True := trivial
theorem te3759402621097325224 : True := trivial
theorem te8965840927656013174 : True := trivial
theorem te14072265296326816939 : True := trivial
theorem te5041788420976514937 : True := trivial
theorem te14952152996046509553 : True := trivial
theorem te15490580069210722243 : True := trivial
theorem te5455981884401750566 : True := trivial
theorem te2450666749281733186 : True := trivial
end PySem.W.Fast
open PySem PySem.W PyProof.Rows
set_option maxRecDepth 100000 in
set_option maxHeartbeats 0 in
theorem PySem.Challenge.cw_honestslot_s01_answers_holds : PySem.Challenge.rw_honestslot_s01_answers.Holds := by
  w_on; k_headS; (case hw => exact ⟨[.list [.int 0, .int 0, .int 0, .int 0, .int 0, .int 8, .int 0, .int 0, .int 0, .int 0, .int 0, .int 0, .int 0, .int 0, .int 8, .int 0, .int 0, .int 0, .int 0, .int 0, .int 0, .int 0, .int 0, .int 8, .int 0, .int 0, .int 0, .int 0, .int 0, .int 0, .int 0, .int 0, .int 8, .int 0, .int 0, .int 0, .int 0, .int 0, .int 0, .int 0, .int 0, .int 8, .int 0, .int 0, .int 0, .int 0, .int 0, .int 0, .int 0, .int 0, .int 8, .int 0, .int 0, .int 0, .int 0, .int 0, .int 0, .int 0, .int 0, .int 8, .int 0, .int 0, .int 0, .int 0, .int 0, .int 0, .int 0, .int 0, .int 0]], by decide +kernel, by decide +kernel⟩)
  k_fillS
  refine L2.walk_specK (r := PySem.Challenge.rw_honestslot_s01_answers) (k := 10) (CX := L2.CX0) (ps := ["calls"]) (sp := Hs.sp_answers) (by decide +kernel) rfl rfl ⟨rfl, by decide, by decide⟩ (fun w h Y => PySem.W.kIn_of Y) ?F ?S (fun _ _ _ _ z => z)
  case F =>
    intro w mg fa h Y KX G hmg
    have T : ∃ a : Hs.Ad, Hs.Txt (L2.KOf KX) mg a ∧ mg "answers" = some (.ref a.f_answers) ∧ ∀ (s : Shared) (us : List Value), us.length = (["calls"] : List Str).length → BindsTo s a.d_answers ⟨us, []⟩ ((["calls"] : List Str).zip us) := by
      dsimp only [L2.KOf]
      refine' Hs.all_mk KX G ?aC_Setup ?aC_Around ?aC_Turn ?aC_Reader ?aC_Machine ?a_Setup_init ?i_Setup_init ?l_Setup_init ?c_Setup_init ?k_Setup_init ?a_Around_init ?i_Around_init ?l_Around_init ?c_Around_init ?k_Around_init ?a_Around_note ?i_Around_note ?l_Around_note ?c_Around_note ?k_Around_note ?a_Around_ask ?i_Around_ask ?l_Around_ask ?c_Around_ask ?k_Around_ask ?a_Around_counters ?i_Around_counters ?l_Around_counters ?c_Around_counters ?k_Around_counters ?a_Around_pay ?i_Around_pay ?l_Around_pay ?c_Around_pay ?k_Around_pay ?a_Around_drop ?i_Around_drop ?l_Around_drop ?c_Around_drop ?k_Around_drop ?a_Around_take ?i_Around_take ?l_Around_take ?c_Around_take ?k_Around_take ?a_Around_show ?i_Around_show ?l_Around_show ?c_Around_show ?k_Around_show ?a_Turn_init ?i_Turn_init ?l_Turn_init ?c_Turn_init ?k_Turn_init ?a_Turn_usable ?i_Turn_usable ?l_Turn_usable ?c_Turn_usable ?k_Turn_usable ?a_Turn_for_sale ?i_Turn_for_sale ?l_Turn_for_sale ?c_Turn_for_sale ?k_Turn_for_sale ?a_Turn_can_be_bought ?i_Turn_can_be_bought ?l_Turn_can_be_bought ?c_Turn_can_be_bought ?k_Turn_can_be_bought ?a_Turn_drop ?i_Turn_drop ?l_Turn_drop ?c_Turn_drop ?k_Turn_drop ?a_Turn_pay_coin ?i_Turn_pay_coin ?l_Turn_pay_coin ?c_Turn_pay_coin ?k_Turn_pay_coin ?a_Turn_pay_coins ?i_Turn_pay_coins ?l_Turn_pay_coins ?c_Turn_pay_coins ?k_Turn_pay_coins ?a_Turn_pay_back ?i_Turn_pay_back ?l_Turn_pay_back ?c_Turn_pay_back ?k_Turn_pay_back ?a_Turn_end ?i_Turn_end ?l_Turn_end ?c_Turn_end ?k_Turn_end ?a_Reader_init ?i_Reader_init ?l_Reader_init ?c_Reader_init ?k_Reader_init ?a_Reader_at_end ?i_Reader_at_end ?l_Reader_at_end ?c_Reader_at_end ?k_Reader_at_end ?a_Reader_number ?i_Reader_number ?l_Reader_number ?c_Reader_number ?k_Reader_number ?a_Reader_row ?i_Reader_row ?l_Reader_row ?c_Reader_row ?k_Reader_row ?a_Machine_init ?i_Machine_init ?l_Machine_init ?c_Machine_init ?k_Machine_init ?a_Machine_begin ?i_Machine_begin ?l_Machine_begin ?c_Machine_begin ?k_Machine_begin ?a_all_within ?l_all_within ?c_all_within ?k_all_within ?a_is_as_told ?l_is_as_told ?c_is_as_told ?k_is_as_told ?a_only_nothing ?l_only_nothing ?c_only_nothing ?k_only_nothing ?a_holds ?l_holds ?c_holds ?k_holds ?a_greatest ?l_greatest ?c_greatest ?k_greatest ?a_raised ?l_raised ?c_raised ?k_raised ?a_with_kind ?l_with_kind ?c_with_kind ?k_with_kind ?a_tails ?l_tails ?c_tails ?k_tails ?a_payable ?l_payable ?c_payable ?k_payable ?a_most_coins ?l_most_coins ?c_most_coins ?k_most_coins ?a_payment_back ?l_payment_back ?c_payment_back ?k_payment_back ?a_since ?l_since ?c_since ?k_since ?a_worth ?l_worth ?c_worth ?k_worth ?a_bits ?l_bits ?c_bits ?k_bits ?a_refusal ?l_refusal ?c_refusal ?k_refusal ?a_start ?l_start ?c_start ?k_start ?a_press ?l_press ?c_press ?k_press ?a_sell ?l_sell ?c_sell ?k_sell ?a_cancel ?l_cancel ?c_cancel ?k_cancel ?a_tick ?l_tick ?c_tick ?k_tick ?a_answer_call ?l_answer_call ?c_answer_call ?k_answer_call ?a_answers ?l_answers ?c_answers ?k_answers ?pg_Setup ?hd_Setup ?po_Setup ?sa_Setup ?mk_Setup ?kc_Setup ?no_Setup_kinds ?no_Setup_slots ?no_Setup_most ?no_Setup_none ?no_Setup_value ?no_Setup_tube ?no_Setup_price ?no_Setup_stock ?no_Setup_in0 ?no_Setup_out0 ?no_Setup_fell0 ?pg_Around ?hd_Around ?po_Around ?sa_Around ?mk_Around ?kc_Around ?no_Around_told ?no_Around_heard ?no_Around_times ?no_Around_asked ?pg_Turn ?hd_Turn ?po_Turn ?sa_Turn ?mk_Turn ?kc_Turn ?no_Turn_machine ?no_Turn_around ?no_Turn_value ?no_Turn_at_hand ?no_Turn_left ?no_Turn_credit ?pg_Reader ?hd_Reader ?po_Reader ?sa_Reader ?mk_Reader ?kc_Reader ?no_Reader_numbers ?no_Reader_place ?pg_Machine ?hd_Machine ?po_Machine ?sa_Machine ?mk_Machine ?kc_Machine ?no_Machine_setup ?no_Machine_stuck ?no_Machine_failed ?g_WIDTH ?g_TAKE ?g_IN ?g_OUT ?g_FELL ?g_PAY ?g_DROP ?g_SHOW ?g_START ?g_PRESS ?g_CANCEL ?g_WRONG ?g_NOT_FOR_SALE ?g_DID_NOT_FALL ?n_all ?n_sum ?n_zip ?n_range ?n_enumerate ?n_len ?n_min
      (case aC_Setup => k_is)
      (case aC_Around => k_is)
      (case aC_Turn => k_is)
      (case aC_Reader => k_is)
      (case aC_Machine => k_is)
      (case a_Setup_init => k_is)
      (case i_Setup_init => k_is)
      (case l_Setup_init => k_is)
      (case c_Setup_init => k_is)
      (case k_Setup_init => k_is)
      (case a_Around_init => k_is)
      (case i_Around_init => k_is)
      (case l_Around_init => k_is)
      (case c_Around_init => k_is)
      (case k_Around_init => k_is)
      (case a_Around_note => k_is)
      (case i_Around_note => k_is)
      (case l_Around_note => k_is)
      (case c_Around_note => k_is)
      (case k_Around_note => k_is)
      (case a_Around_ask => k_is)
      (case i_Around_ask => k_is)
      (case l_Around_ask => k_is)
      (case c_Around_ask => k_is)
      (case k_Around_ask => k_is)
      (case a_Around_counters => k_is)
      (case i_Around_counters => k_is)
      (case l_Around_counters => k_is)
      (case c_Around_counters => k_is)
      (case k_Around_counters => k_is)
      (case a_Around_pay => k_is)
      (case i_Around_pay => k_is)
      (case l_Around_pay => k_is)
      (case c_Around_pay => k_is)
      (case k_Around_pay => k_is)
      (case a_Around_drop => k_is)
      (case i_Around_drop => k_is)
      (case l_Around_drop => k_is)
      (case c_Around_drop => k_is)
      (case k_Around_drop => k_is)
      (case a_Around_take => k_is)
      (case i_Around_take => k_is)
      (case l_Around_take => k_is)
      (case c_Around_take => k_is)
      (case k_Around_take => k_is)
      (case a_Around_show => k_is)
      (case i_Around_show => k_is)
      (case l_Around_show => k_is)
      (case c_Around_show => k_is)
      (case k_Around_show => k_is)
      (case a_Turn_init => k_is)
      (case i_Turn_init => k_is)
      (case l_Turn_init => k_is)
      (case c_Turn_init => k_is)
      (case k_Turn_init => k_is)
      (case a_Turn_usable => k_is)
      (case i_Turn_usable => k_is)
      (case l_Turn_usable => k_is)
      (case c_Turn_usable => k_is)
      (case k_Turn_usable => k_is)
      (case a_Turn_for_sale => k_is)
      (case i_Turn_for_sale => k_is)
      (case l_Turn_for_sale => k_is)
      (case c_Turn_for_sale => k_is)
      (case k_Turn_for_sale => k_is)
      (case a_Turn_can_be_bought => k_is)
      (case i_Turn_can_be_bought => k_is)
      (case l_Turn_can_be_bought => k_is)
      (case c_Turn_can_be_bought => k_is)
      (case k_Turn_can_be_bought => k_is)
      (case a_Turn_drop => k_is)
      (case i_Turn_drop => k_is)
      (case l_Turn_drop => k_is)
      (case c_Turn_drop => k_is)
      (case k_Turn_drop => k_is)
      (case a_Turn_pay_coin => k_is)
      (case i_Turn_pay_coin => k_is)
      (case l_Turn_pay_coin => k_is)
      (case c_Turn_pay_coin => k_is)
      (case k_Turn_pay_coin => k_is)
      (case a_Turn_pay_coins => k_is)
      (case i_Turn_pay_coins => k_is)
      (case l_Turn_pay_coins => k_is)
      (case c_Turn_pay_coins => k_is)
      (case k_Turn_pay_coins => k_is)
      (case a_Turn_pay_back => k_is)
      (case i_Turn_pay_back => k_is)
      (case l_Turn_pay_back => k_is)
      (case c_Turn_pay_back => k_is)
      (case k_Turn_pay_back => k_is)
      (case a_Turn_end => k_is)
      (case i_Turn_end => k_is)
      (case l_Turn_end => k_is)
      (case c_Turn_end => k_is)
      (case k_Turn_end => k_is)
      (case a_Reader_init => k_is)
      (case i_Reader_init => k_is)
      (case l_Reader_init => k_is)
      (case c_Reader_init => k_is)
      (case k_Reader_init => k_is)
      (case a_Reader_at_end => k_is)
      (case i_Reader_at_end => k_is)
      (case l_Reader_at_end => k_is)
      (case c_Reader_at_end => k_is)
      (case k_Reader_at_end => k_is)
      (case a_Reader_number => k_is)
      (case i_Reader_number => k_is)
      (case l_Reader_number => k_is)
      (case c_Reader_number => k_is)
      (case k_Reader_number => k_is)
      (case a_Reader_row => k_is)
      (case i_Reader_row => k_is)
      (case l_Reader_row => k_is)
      (case c_Reader_row => k_is)
      (case k_Reader_row => k_is)
      (case a_Machine_init => k_is)
      (case i_Machine_init => k_is)
      (case l_Machine_init => k_is)
      (case c_Machine_init => k_is)
      (case k_Machine_init => k_is)
      (case a_Machine_begin => k_is)
      (case i_Machine_begin => k_is)
      (case l_Machine_begin => k_is)
      (case c_Machine_begin => k_is)
      (case k_Machine_begin => k_is)
      (case a_all_within => k_is)
      (case l_all_within => k_is)
      (case c_all_within => k_is)
      (case k_all_within => k_is)
      (case a_is_as_told => k_is)
      (case l_is_as_told => k_is)
      (case c_is_as_told => k_is)
      (case k_is_as_told => k_is)
      (case a_only_nothing => k_is)
      (case l_only_nothing => k_is)
      (case c_only_nothing => k_is)
      (case k_only_nothing => k_is)
      (case a_holds => k_is)
      (case l_holds => k_is)
      (case c_holds => k_is)
      (case k_holds => k_is)
      (case a_greatest => k_is)
      (case l_greatest => k_is)
      (case c_greatest => k_is)
      (case k_greatest => k_is)
      (case a_raised => k_is)
      (case l_raised => k_is)
      (case c_raised => k_is)
      (case k_raised => k_is)
      (case a_with_kind => k_is)
      (case l_with_kind => k_is)
      (case c_with_kind => k_is)
      (case k_with_kind => k_is)
      (case a_tails => k_is)
      (case l_tails => k_is)
      (case c_tails => k_is)
      (case k_tails => k_is)
      (case a_payable => k_is)
      (case l_payable => k_is)
      (case c_payable => k_is)
      (case k_payable => k_is)
      (case a_most_coins => k_is)
      (case l_most_coins => k_is)
      (case c_most_coins => k_is)
      (case k_most_coins => k_is)
      (case a_payment_back => k_is)
      (case l_payment_back => k_is)
      (case c_payment_back => k_is)
      (case k_payment_back => k_is)
      (case a_since => k_is)
      (case l_since => k_is)
      (case c_since => k_is)
      (case k_since => k_is)
      (case a_worth => k_is)
      (case l_worth => k_is)
      (case c_worth => k_is)
      (case k_worth => k_is)
      (case a_bits => k_is)
      (case l_bits => k_is)
      (case c_bits => k_is)
      (case k_bits => k_is)
      (case a_refusal => k_is)
      (case l_refusal => k_is)
      (case c_refusal => k_is)
      (case k_refusal => k_is)
      (case a_start => k_is)
      (case l_start => k_is)
      (case c_start => k_is)
      (case k_start => k_is)
      (case a_press => k_is)
      (case l_press => k_is)
      (case c_press => k_is)
      (case k_press => k_is)
      (case a_sell => k_is)
      (case l_sell => k_is)
      (case c_sell => k_is)
      (case k_sell => k_is)
      (case a_cancel => k_is)
      (case l_cancel => k_is)
      (case c_cancel => k_is)
      (case k_cancel => k_is)
      (case a_tick => k_is)
      (case l_tick => k_is)
      (case c_tick => k_is)
      (case k_tick => k_is)
      (case a_answer_call => k_is)
      (case l_answer_call => k_is)
      (case c_answer_call => k_is)
      (case k_answer_call => k_is)
      (case a_answers => k_is)
      (case l_answers => k_is)
      (case c_answers => k_is)
      (case k_answers => k_is)
      (case pg_Setup => k_is)
      (case hd_Setup => k_is)
      (case po_Setup => k_is)
      (case sa_Setup => k_is)
      (case mk_Setup => k_is)
      (case kc_Setup => k_is)
      (case no_Setup_kinds => k_is)
      (case no_Setup_slots => k_is)
      (case no_Setup_most => k_is)
      (case no_Setup_none => k_is)
      (case no_Setup_value => k_is)
      (case no_Setup_tube => k_is)
      (case no_Setup_price => k_is)
      (case no_Setup_stock => k_is)
      (case no_Setup_in0 => k_is)
      (case no_Setup_out0 => k_is)
      (case no_Setup_fell0 => k_is)
      (case pg_Around => k_is)
      (case hd_Around => k_is)
      (case po_Around => k_is)
      (case sa_Around => k_is)
      (case mk_Around => k_is)
      (case kc_Around => k_is)
      (case no_Around_told => k_is)
      (case no_Around_heard => k_is)
      (case no_Around_times => k_is)
      (case no_Around_asked => k_is)
      (case pg_Turn => k_is)
      (case hd_Turn => k_is)
      (case po_Turn => k_is)
      (case sa_Turn => k_is)
      (case mk_Turn => k_is)
      (case kc_Turn => k_is)
      (case no_Turn_machine => k_is)
      (case no_Turn_around => k_is)
      (case no_Turn_value => k_is)
      (case no_Turn_at_hand => k_is)
      (case no_Turn_left => k_is)
      (case no_Turn_credit => k_is)
      (case pg_Reader => k_is)
      (case hd_Reader => k_is)
      (case po_Reader => k_is)
      (case sa_Reader => k_is)
      (case mk_Reader => k_is)
      (case kc_Reader => k_is)
      (case no_Reader_numbers => k_is)
      (case no_Reader_place => k_is)
      (case pg_Machine => k_is)
      (case hd_Machine => k_is)
      (case po_Machine => k_is)
      (case sa_Machine => k_is)
      (case mk_Machine => k_is)
      (case kc_Machine => k_is)
      (case no_Machine_setup => k_is)
      (case no_Machine_stuck => k_is)
      (case no_Machine_failed => k_is)
      (case g_WIDTH => k_is)
      (case g_TAKE => k_is)
      (case g_IN => k_is)
      (case g_OUT => k_is)
      (case g_FELL => k_is)
      (case g_PAY => k_is)
      (case g_DROP => k_is)
      (case g_SHOW => k_is)
      (case g_START => k_is)
      (case g_PRESS => k_is)
      (case g_CANCEL => k_is)
      (case g_WRONG => k_is)
      (case g_NOT_FOR_SALE => k_is)
      (case g_DID_NOT_FALL => k_is)
      (case n_all => k_is)
      (case n_sum => k_is)
      (case n_zip => k_is)
      (case n_range => k_is)
      (case n_enumerate => k_is)
      (case n_len => k_is)
      (case n_min => k_is)
    obtain ⟨a, T, e1, e2⟩ := T
    have e0 := hmg.symm.trans e1
    cases e0
    exact ⟨a.d_answers, e2, fun base _ _ => Hs.ok_answers T⟩
  case S =>
    intro K H xs a hO hwi hask hx
    cases hx with
    | cons h1 h2 =>
      cases h2
      cases h1 with
      | lst hs ha =>
        have e := L2.ints_dw a.1 _ ha
        subst e
        exact ⟨_, a.1, rfl, hs, hask, fun H' p hp => .lst (L2.SqL.of hp) (L2.dw_ints _)⟩
#print axioms PySem.Challenge.cw_honestslot_s01_answers_holds
