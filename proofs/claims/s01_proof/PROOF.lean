import PyProof.Rows.All
import Wide.All
import OpenK.AllK
import Wide.FinOn
import PyProof.EqAt
import PyProof.EqKinds
import PyProof.TupleCall
import KE.BitLaws
import Open.SpecLaws
import KE.OsHead
import KE.OsGo
import KE.KDictSum
import PyProof.Rows.SortShellAny
import PySem.Challenge.RW_lampcell_s01_answers
section
set_option Elab.async false
set_option linter.all false
set_option maxRecDepth 100000
set_option Elab.async false
set_option linter.all false
set_option maxRecDepth 100000

namespace L2
open PySem PySem.Spec PyProof.Rows


abbrev Key := Sum Int Str
def keyIs : Key → Value → Bool
  | .inl k, v => Value.isInt k v
  | .inr x, v => Value.isStrOf x v
def keyH (w : World) : Key → Int
  | .inl k => hashInt k
  | .inr x => hashStr w x
theorem keyIs_shape : ∀ {k : Key} {v : Value}, keyIs k v = true → (∃ i t, k = Sum.inl i ∧ v = Value.int i t) ∨ (∃ x t, k = Sum.inr x ∧ v = Value.str x t)
  | .inl i, v, h => by
    obtain ⟨t, e⟩ := Value.isInt_shape (k := i) (v := v) h
    exact .inl ⟨i, t, rfl, e⟩
  | .inr x, v, h => by
    obtain ⟨t, e⟩ := Value.isStrOf_shape (x := x) (v := v) h
    exact .inr ⟨x, t, rfl, e⟩
theorem key_ll (a b : Int) : decide ((Sum.inl a : Key) = Sum.inl b) = (a == b) := by
  by_cases e : a = b
  · subst e; simp
  · have h : ¬ (Sum.inl a : Key) = Sum.inl b := fun q => e (Sum.inl.inj q)
    rw [decide_eq_false h]
    exact (beq_eq_false_iff_ne.mpr e).symm
theorem key_rr (a b : Str) : decide ((Sum.inr a : Key) = Sum.inr b) = decide (a = b) := by
  by_cases e : a = b
  · subst e; simp
  · have h : ¬ (Sum.inr a : Key) = Sum.inr b := fun q => e (Sum.inr.inj q)
    rw [decide_eq_false h, decide_eq_false e]
theorem key_lr (a : Int) (b : Str) : decide ((Sum.inl a : Key) = Sum.inr b) = false := decide_eq_false (fun q => nomatch q)
theorem key_rl (a : Str) (b : Int) : decide ((Sum.inr a : Key) = Sum.inl b) = false := decide_eq_false (fun q => nomatch q)

def mixKind (prog : Program) (w : World) : PySem.KeyKind prog w Key where
  is := keyIs
  hash := keyH w
  inj := fun v a b ha hb => by
    rcases keyIs_shape ha with ⟨i, t, rfl, rfl⟩ | ⟨x, t, rfl, rfl⟩
    · rcases keyIs_shape hb with ⟨j, u, rfl, e⟩ | ⟨y, u, rfl, e⟩
      · injection e with e1 _; rw [e1]
      · exact nomatch e
    · rcases keyIs_shape hb with ⟨j, u, rfl, e⟩ | ⟨y, u, rfl, e⟩
      · exact nomatch e
      · injection e with e1 _; rw [e1]
  byValue := fun k v h => by
    rcases keyIs_shape h with ⟨i, t, rfl, rfl⟩ | ⟨x, t, rfl, rfl⟩ <;> rfl
  pyHash := fun hv h => by
    rcases keyIs_shape hv with ⟨i, t, rfl, rfl⟩ | ⟨x, t, rfl, rfl⟩
    · exact wpAny_pyHash_int h
    · exact wpAny_pyHash_str h
  eqBool := fun hu hv h => by
    rcases keyIs_shape hu with ⟨i, t, rfl, rfl⟩ | ⟨x, t, rfl, rfl⟩
    · rcases keyIs_shape hv with ⟨j, u, rfl, rfl⟩ | ⟨y, u, rfl, rfl⟩
      · rw [key_ll] at h; exact wpAny_eqBool_int h
      · rw [key_lr] at h; exact SeqAt.EqAt.int_str i t y u _ _ _ _ h
    · rcases keyIs_shape hv with ⟨j, u, rfl, rfl⟩ | ⟨y, u, rfl, rfl⟩
      · rw [key_rl] at h; exact SeqAt.EqAt.str_int x t j u _ _ _ _ h
      · rw [key_rr] at h; exact wpAny_eqBool_str h
  «strs» := fun k x t v h => by
    rcases keyIs_shape h with ⟨i, u, rfl, e⟩ | ⟨y, u, rfl, e⟩
    · exact nomatch e
    · injection e with e1 _
      subst e1
      cases v <;> rfl

end L2

namespace L2
open PySem PySem.Spec PyProof.Rows


inductive V where
  | non | bl (b : Bool) | int (i : Int) | str (x : Str) | byt (b : Array UInt8) | flt (b : UInt64) | ref (a : Addr) | ty (n : String)
  deriving DecidableEq

def RelV : V → Value → Prop
  | .non, u => u = Value.none
  | .bl b, u => u = Value.bool b
  | .int i, u => ∃ t, u = Value.int i t
  | .str x, u => ∃ t, u = Value.str x t
  | .byt b, u => ∃ t, u = Value.bytes b t
  | .flt b, u => ∃ t, u = Value.float b t
  | .ref a, u => u = Value.ref a
  | .ty n, u => u = Value.type n

abbrev Vals : List V → List Value → Prop := Paired RelV
theorem Vals.length {xs : List V} {us : List Value} (r : Vals xs us) : xs.length = us.length := Paired.length r
theorem Vals.get : ∀ {xs : List V} {us : List Value} {i : Nat} {x : V}, Vals xs us → xs[i]? = some x → ∃ u, us[i]? = some u ∧ RelV x u
  | _, _, _, _, .nil, e => by simp at e
  | _, _, 0, _, .cons r _, e => by simp at e; subst e; exact ⟨_, rfl, r⟩
  | _, _, i + 1, x, .cons _ t, e => by
    obtain ⟨u, h1, h2⟩ := Vals.get (i := i) (x := x) t (by simpa using e)
    exact ⟨u, by simpa using h1, h2⟩
theorem Vals.set {x : V} {u : Value} (r : RelV x u) : ∀ {xs : List V} {us : List Value} (i : Nat), Vals xs us → Vals (xs.set i x) (us.set i u)
  | _, _, _, .nil => .nil
  | _, _, 0, .cons _ t => .cons r t
  | _, _, i + 1, .cons q t => .cons q (Vals.set r i t)
theorem Vals.append : ∀ {xs ys : List V} {us ws : List Value}, Vals xs us → Vals ys ws → Vals (xs ++ ys) (us ++ ws)
  | _, _, _, _, .nil, s => s
  | _, _, _, _, .cons r t, s => .cons r (Vals.append t s)
theorem Vals.take : ∀ {xs : List V} {us : List Value} (n : Nat), Vals xs us → Vals (xs.take n) (us.take n)
  | _, _, 0, _ => .nil
  | _, _, _ + 1, .nil => .nil
  | _, _, n + 1, .cons r t => .cons r (Vals.take n t)
theorem Vals.drop : ∀ {xs : List V} {us : List Value} (n : Nat), Vals xs us → Vals (xs.drop n) (us.drop n)
  | _, _, 0, r => r
  | _, _, _ + 1, .nil => .nil
  | _, _, n + 1, .cons _ t => Vals.drop n t
def RelO : Option V → Option Value → Prop
  | some v, some u => RelV v u
  | none, none => True
  | _, _ => False
def KV {κ : Type} : List (κ × V) → List (κ × Value) → Prop := Paired fun (p : κ × V) (q : κ × Value) => p.1 = q.1 ∧ RelV p.2 q.2


def kV : Key → V
  | .inl i => .int i
  | .inr x => .str x


inductive HO where
  
  | lst (xs : List V)
  
  | tup (xs : List V)
  
  | dK (kvs : List (Key × V)) | dT (kvs : List (List Key × V))
  
  | set (S : Int → Bool) (n : Nat)
  
  | ins (C dx : Addr) (fs : List (Str × V))
  
  | own (x : Addr)
  
  | xd (fs : List (Str × V))
  
  | met (f x : Addr)
  
  | rng (lo hi : Int)
  
  | frz (o : Obj) (u : HO)
  
  | tbl (ps : Array Value)
  
  | ext (φ : Heap → Prop)

abbrev Hp := Addr → Option HO
def upd (H : Hp) (a : Addr) (o : HO) : Hp := fun b => if b = a then some o else H b
theorem upd_same {H : Hp} {a : Addr} {o : HO} : upd H a o a = some o := by unfold upd; rw [if_pos rfl]
theorem upd_ne {H : Hp} {a b : Addr} {o : HO} (h : b ≠ a) : upd H a o b = H b := by unfold upd; rw [if_neg h]
theorem ne_of {H : Hp} {a b : Addr} {o u : HO} (h : H a = some o) (h' : H b = some u) (d : o ≠ u) : a ≠ b := by
  intro e; subst e; rw [h] at h'; exact d (Option.some.inj h')
theorem ne_of_none {H : Hp} {a b : Addr} {o : HO} (h : H a = some o) (h' : H b = none) : a ≠ b := by
  intro e; subst e; rw [h] at h'; cases h'

section
variable (P : Program) (w : World)
def ObjOk (H : Hp) (h : Heap) (a : Addr) : HO → Prop
  | .lst xs => xs.length ≤ sizeLine ∧ ∃ (its : List Value) (n : Nat), Vals xs its ∧ h.get? a = some { cls := .type "list", data := .seq its.toArray n }
  | .tup xs => xs.length ≤ sizeLine ∧ ∃ its : List Value, Vals xs its ∧ IsTup h a its.toArray
  | .dK kvs => kvs.length ≤ sizeLine ∧ (a == sysModules) = false ∧ ∃ vs, KV kvs vs ∧ h.DictOf (mixKind P w) a vs
  | .dT kvs => kvs.length ≤ sizeLine ∧ (a == sysModules) = false ∧ ∃ xs : List (List Key × Addr × Value),
      Paired (fun (p : List Key × V) (q : List Key × Addr × Value) => p.1 = q.1 ∧ H q.2.1 = some (.tup (p.1.map kV)) ∧ RelV p.2 q.2.2) kvs xs ∧
      ∃ o es ep, h.get? a = some o ∧ o.ExactDict ∧ o.data = .dict es ep ∧ es.toList = xs.map (entryOfKey (tupleKind (mixKind P w))) ∧ (xs.map (·.1)).Nodup
  | .set S n => h.SetOf (intKind P w) a S n
  | .ins C dx fs => H dx = some (.own a) ∧ fs.length ≤ 1000 ∧ dx ≠ a ∧ h.get? a = some (PySem.W.instObj C dx) ∧
      ∃ mA, h.Ns1 dx mA ∧ (∀ f, RelO (fs.lookup f) (mA f)) ∧ PySem.Within mA (fs.map (·.1))
  | .own _ => ∃ o, h.get? a = some o
  | .xd fs => ∃ mA, h.Ns1 a mA ∧ ∀ f, RelO (fs.lookup f) (mA f)
  | .rng lo hi => ∃ t u v, h.get? a = some { cls := .type "range", data := .fields #[.int lo t, .int hi u, .int 1 v] }
  | .frz o u => h.get? a = some o ∧ ObjOk H h a u
  | .tbl ps => h.get? a = some { cls := .none, data := .fields ps }
  | .met f x => h.get? a = some (PySem.W.methodObj (.ref f) (.ref x))
  | .ext φ => φ h ∧ (∃ o, h.get? a = some o) ∧ ∀ h1 h2 : Heap, φ h1 → (∀ o, h1.get? a = some o → h2.get? a = some o) → φ h2

def HOk (H : Hp) (h : Heap) : Prop := ∀ a o, H a = some o → ObjOk P w H h a o
end

section
variable {P : Program} {w : World} {H H' : Hp} {h h' : Heap} {a : Addr} {o : HO}
theorem ObjOk.lt (x : ObjOk P w H h a o) : a < h.objs.size := by
  cases o with
  | lst xs => obtain ⟨_, _, _, _, e⟩ := x; exact Heap.lt_size e
  | tup xs => obtain ⟨_, _, _, p⟩ := x; exact p.lt
  | dK kvs => obtain ⟨_, _, _, _, o, _, _, e, _⟩ := x; exact Heap.lt_size e
  | dT kvs => obtain ⟨_, _, _, _, o, _, _, e, _⟩ := x; exact Heap.lt_size e
  | set S n => obtain ⟨o, _, _, _, e, _⟩ := x; exact Heap.lt_size e
  | ins C dx fs => obtain ⟨_, _, _, e, _⟩ := x; exact Heap.lt_size e
  | own y => obtain ⟨_, e⟩ := x; exact Heap.lt_size e
  | xd fs => obtain ⟨_, ⟨_, _, _, e, _⟩, _⟩ := x; exact Heap.lt_size e
  | rng lo hi => obtain ⟨_, _, _, e⟩ := x; exact Heap.lt_size e
  | frz ob u => obtain ⟨e, _⟩ := x; exact Heap.lt_size e
  | tbl ps => exact Heap.lt_size (show h.get? a = some _ from x)
  | met f y => exact Heap.lt_size (show h.get? a = some _ from x)
  | ext φ => obtain ⟨_, ⟨_, e⟩, _⟩ := x; exact Heap.lt_size e
theorem Paired.mapP {α β : Type} {F G : α → β → Prop} : ∀ {l₁ : List α} {l₂ : List β}, Paired F l₁ l₂ → (∀ a b, F a b → G a b) → Paired G l₁ l₂
  | _, _, .nil, _ => .nil
  | _, _, .cons r t, f => .cons (f _ _ r) (Paired.mapP t f)
theorem ObjOk.stay (x : ObjOk P w H h a o) (k : ∀ b u, (b = a ∨ H b = some (.own a)) → h.get? b = some u → h'.get? b = some u)
    (ho : ∀ b, H b = some (.own a) → H' b = some (.own a)) (ht : ∀ b xs, H b = some (.tup xs) → H' b = some (.tup xs)) : ObjOk P w H' h' a o := by
  induction o with
  | lst xs => obtain ⟨z, its, n, r, e⟩ := x; exact ⟨z, its, n, r, k _ _ (.inl rfl) e⟩
  | tup xs => obtain ⟨z, its, r, ob, e, c⟩ := x; exact ⟨z, its, r, ob, k _ _ (.inl rfl) e, c⟩
  | dK kvs => obtain ⟨z, y, vs, r, ob, es, ep, e, c⟩ := x; exact ⟨z, y, vs, r, ob, es, ep, k _ _ (.inl rfl) e, c⟩
  | dT kvs =>
    obtain ⟨z, y, xs, r, ob, es, ep, e, c⟩ := x
    exact ⟨z, y, xs, Paired.mapP r fun p q z => ⟨z.1, ht _ _ z.2.1, z.2.2⟩, ob, es, ep, k _ _ (.inl rfl) e, c⟩
  | set S n => obtain ⟨ob, es, ep, t, e, c⟩ := x; exact ⟨ob, es, ep, t, k _ _ (.inl rfl) e, c⟩
  | ins C dx fs =>
    obtain ⟨d, z, ne, e, mA, ⟨od, es, ep, e2, c⟩, r⟩ := x
    exact ⟨ho _ d, z, ne, k _ _ (.inl rfl) e, mA, ⟨od, es, ep, k _ _ (.inr d) e2, c⟩, r⟩
  | own y => obtain ⟨ob, e⟩ := x; exact ⟨ob, k _ _ (.inl rfl) e⟩
  | xd fs => obtain ⟨mA, ⟨od, es, ep, e, c⟩, r⟩ := x; exact ⟨mA, ⟨od, es, ep, k _ _ (.inl rfl) e, c⟩, r⟩
  | rng lo hi => obtain ⟨t, u, v, e⟩ := x; exact ⟨t, u, v, k _ _ (.inl rfl) e⟩
  | frz ob u ih => obtain ⟨e, q⟩ := x; exact ⟨k _ _ (.inl rfl) e, ih q⟩
  | tbl ps =>
    have e : h.get? a = some { cls := .none, data := .fields ps } := x
    show h'.get? a = some { cls := .none, data := .fields ps }
    exact k a _ (.inl rfl) e
  | met f y =>
    have e : h.get? a = some (PySem.W.methodObj (.ref f) (.ref y)) := x
    show h'.get? a = some (PySem.W.methodObj (.ref f) (.ref y))
    exact k a _ (.inl rfl) e
  | ext φ => obtain ⟨p, ⟨o, e⟩, st⟩ := x; exact ⟨st _ _ p fun o q => k _ _ (.inl rfl) q, ⟨o, k _ _ (.inl rfl) e⟩, st⟩
theorem HOk.lt (x : HOk P w H h) (e : H a = some o) : a < h.objs.size := (x a o e).lt
theorem HOk.fresh (x : HOk P w H h) (e : h.objs.size ≤ a) : H a = none := by
  cases q : H a with
  | none => rfl
  | some u => exact absurd (Nat.lt_of_lt_of_le (x.lt q) e) (Nat.lt_irrefl _)

theorem HOk.kept (x : HOk P w H h) (k : ∀ b u, h.get? b = some u → h'.get? b = some u) : HOk P w H h' := fun a o e =>
  (x a o e).stay (fun b u _ q => k b u q) (fun _ q => q) fun _ _ q => q

theorem HOk.laid (x : HOk P w H h) (k : ∀ b u, h.get? b = some u → h'.get? b = some u) (hp : h.objs.size ≤ a) (new : ObjOk P w (upd H a o) h' a o) : HOk P w (upd H a o) h' := fun b u e => by
  have hn := x.fresh hp
  by_cases hb : b = a
  · subst hb; rw [upd_same] at e; cases e; exact new
  · rw [upd_ne hb] at e
    exact (x b u e).stay (fun c v _ q => k c v q) (fun c q => by rw [upd_ne (ne_of_none q hn)]; exact q) fun c xs q => by rw [upd_ne (ne_of_none q hn)]; exact q
end


def Rd (H : Hp) (a : Addr) (u : HO) : Prop := H a = some u ∨ ∃ o, H a = some (.frz o u)
theorem Rd.ok {P : Program} {w : World} {H : Hp} {h : Heap} {a : Addr} {u : HO} (r : Rd H a u) (x : HOk P w H h) : ObjOk P w H h a u := by
  rcases r with r | ⟨o, r⟩
  · exact x a u r
  · obtain ⟨_, q⟩ := x a _ r
    exact q

def Mut : Option HO → Prop
  | some (.lst _) => True
  | some (.dK _) => True
  | some (.dT _) => True
  | some (.set _ _) => True
  | some (.ins _ _ _) => True
  | some (.ext _) => True
  | _ => False
section
variable {P : Program} {w : World} {H : Hp} {h h' : Heap} {x e : Addr} {o' : HO}

theorem HOk.write (ok : HOk P w H h) (mu : Mut (H x)) (he : e = x ∨ H e = some (.own x)) (k : ∀ b u, b ≠ e → h.get? b = some u → h'.get? b = some u) (heo : ∃ u, h'.get? e = some u)
    (new : ObjOk P w (upd H x o') h' x o') : HOk P w (upd H x o') h' := fun b u q => by
  have nown : ∀ c y, H c = some (.own y) → c ≠ x := fun c y r z => by subst z; rw [r] at mu; exact mu
  have ntup : ∀ c xs, H c = some (.tup xs) → c ≠ x := fun c xs r z => by subst z; rw [r] at mu; exact mu
  by_cases hb : b = x
  · subst hb; rw [upd_same] at q; cases q; exact new
  · rw [upd_ne hb] at q
    by_cases hbe : b = e
    · have q' : H b = some (.own x) := by
        rcases he with z | z
        · exact absurd (hbe.trans z) hb
        · rw [hbe]; exact z
      rw [q] at q'; cases q'
      obtain ⟨v, hv⟩ := heo
      exact ⟨v, by rw [hbe]; exact hv⟩
    · refine (ok b u q).stay (fun c v hc r => k c v ?_ r) (fun c r => by rw [upd_ne (nown c b r)]; exact r) fun c xs r => by rw [upd_ne (ntup c xs r)]; exact r
      rcases hc with rfl | hc
      · exact hbe
      · rintro rfl
        rcases he with z | z
        · exact nown c b hc z
        · rw [hc] at z; cases z; exact hb rfl
end


structure Un (fs ex : List Addr) (H H' : Hp) (h h' : Heap) : Prop where
  keep : ∀ b o, h.get? b = some o → H b = none → b ∉ fs → b ∉ ex → h'.get? b = some o
  slot : ∀ b o, h.get? b = some o → H b = none → b ∈ fs → b ∉ ex → ∃ sl, h'.get? b = some { o with slots := sl }
  free : ∀ b o, h.get? b = some o → H b = none → b ∉ ex → H' b = none
  there : ∀ b o, h.get? b = some o → b ∉ ex → ∃ o', h'.get? b = some o'
  tups : ∀ b xs, H b = some (.tup xs) → H' b = some (.tup xs)
  frzs : ∀ b o u, H b = some (.frz o u) → H' b = some (.frz o u)
  tbls : ∀ b ps, H b = some (.tbl ps) → ∃ more, H' b = some (.tbl (ps ++ more))
section
variable {fs fs' ex ex' : List Addr} {H H1 H2 : Hp} {h h1 h2 h' : Heap} {a x e : Addr} {o : HO}
theorem Un.any (u : Un fs ex H H1 h h1) {b : Addr} {ob : Obj} (q : h.get? b = some ob) (n : H b = none) (hx : b ∉ ex) : ∃ sl, h1.get? b = some { ob with slots := sl } := by
  by_cases hb : b ∈ fs
  · exact u.slot b ob q n hb hx
  · exact ⟨ob.slots, u.keep b ob q n hb hx⟩
theorem Un.kept (k : ∀ b u, h.get? b = some u → h'.get? b = some u) : Un fs ex H H h h' :=
  ⟨fun b ob q _ _ _ => k b ob q, fun b ob q _ _ _ => ⟨ob.slots, k b ob q⟩, fun _ _ _ n _ => n, fun b ob q _ => ⟨ob, k b ob q⟩, fun _ _ q => q, fun _ _ _ q => q, fun _ ps q => ⟨#[], by rw [q]; simp⟩⟩
theorem Un.refl : Un fs ex H H h h := Un.kept fun _ _ q => q
theorem Un.laid (k : ∀ b u, h.get? b = some u → h'.get? b = some u) (hp : h.objs.size ≤ a) (hn : H a = none) : Un fs ex H (upd H a o) h h' where
  keep := fun b u q _ _ _ => k b u q
  slot := fun b u q _ _ _ => ⟨u.slots, k b u q⟩
  free := fun b u q n _ => by rw [upd_ne (Nat.ne_of_lt (Nat.lt_of_lt_of_le (Heap.lt_size q) hp))]; exact n
  there := fun b u q _ => ⟨u, k b u q⟩
  tups := fun b xs q => by rw [upd_ne (ne_of_none q hn)]; exact q
  frzs := fun b u xs q => by rw [upd_ne (ne_of_none q hn)]; exact q
  tbls := fun b ps q => ⟨#[], by rw [upd_ne (ne_of_none q hn), q]; simp⟩
theorem Un.write (mu : Mut (H x)) (he : e = x ∨ H e = some (.own x)) (k : ∀ b u, b ≠ e → h.get? b = some u → h'.get? b = some u) (heo : ∃ u, h'.get? e = some u) : Un fs ex H (upd H x o) h h' := by
  have hx : ∀ b, H b = none → b ≠ x := fun b n z => by subst z; rw [n] at mu; exact mu
  have hb : ∀ b, H b = none → b ≠ e := fun b n z => by
    subst z
    rcases he with r | r
    · exact hx b n r
    · rw [n] at r; cases r
  have hm : ∀ b u, H b = some u → ¬ Mut (some u) → b ≠ x := fun b u q nm z => by subst z; rw [q] at mu; exact nm mu
  refine ⟨fun b u q n _ _ => k b u (hb b n) q, fun b u q n _ _ => ⟨u.slots, k b u (hb b n) q⟩, fun b u q n _ => by rw [upd_ne (hx b n)]; exact n, fun b u q _ => ?_,
    fun b xs q => by rw [upd_ne (hm b _ q fun z => z)]; exact q, fun b u xs q => by rw [upd_ne (hm b _ q fun z => z)]; exact q, fun b ps q => ⟨#[], by rw [upd_ne (hm b _ q fun z => z), q]; simp⟩⟩
  by_cases hbe : b = e
  · subst hbe; exact heo
  · exact ⟨u, k b u hbe q⟩
end


def trk (h : Heap) (H : Hp) : List Addr := (List.range h.objs.size).filter fun a => (H a).isSome
def hidT (h : Heap) (H : Hp) : Heap := PySem.W.hideAll h (trk h H)
theorem hidT_size (h : Heap) (H : Hp) : (hidT h H).objs.size = h.objs.size := PySem.W.hideAll_size _ _
theorem hidT_get {h : Heap} {H : Hp} {b : Addr} {o : Obj} (e : h.get? b = some o) (n : H b = none) : (hidT h H).get? b = some o :=
  PySem.W.hideAll_get _ e fun hm => by
    have q : (H b).isSome = true := (List.mem_filter.mp hm).2
    rw [n] at q; simp at q
theorem of_hidT {h : Heap} {H : Hp} {b : Addr} {o : Obj} (e : (hidT h H).get? b = some o) : h.get? b = some o ∧ H b = none := by
  have e' : h.get? b = some o := PySem.W.of_hideAll (trk h H) e
  refine ⟨e', ?_⟩
  cases q : H b with
  | none => rfl
  | some x =>
    have hm : b ∈ trk h H := List.mem_filter.mpr ⟨List.mem_range.mpr (Heap.lt_size e'), by simp [q]⟩
    have z : (hidT h H).get? b = none := PySem.W.hideAll_none (trk h H) hm
    rw [z] at e; cases e


def allNews (g h : Heap) (L : Addr) : List (Addr × Obj) := (List.range h.objs.size).filterMap fun a => if a = L ∨ (g.get? a).isSome = true then none else (h.get? a).map fun o => (a, o)
def rest (g h : Heap) (L d : Addr) : List (Addr × Obj) := (allNews g h L).filter fun p => decide (p.1 ≠ d)
end L2

namespace L2
open PySem PySem.Spec PyProof.Rows


structure Mod (K : PySem.W.Frag) (mg : Str → Option Value) (base : Heap) : Prop where
  kin : K.In base
  glob : base.Ns mainGlobals mg
  blt : ∃ mb, base.Ns builtinsNs mb ∧ ∀ x : Str, x ≠ "__name__" → mb x = bootBuiltins x
  nolimit : base.NoLimit


structure Cx where
  prog : Program
  w : World
  K : PySem.W.Frag
  mg : Str → Option Value
  base : Heap
  A : Around
  N : List Str
  s_0 : Shared
  H_0 : Hp
  env : Env
  outer : List Env
  stack : List Env
  ex : List Addr
  fn : Str → Bool
  calm : Bool
  pn : List (Addr × Obj)
  xe : Value → Shared → Prop

def frs (l : List Env) : List Addr := l.filterMap (·.frame)
abbrev Cx.fs (X : Cx) : List Addr := frs X.outer

def Vis (sc : Scope) (x : Str) : Prop := sc.names.lookup x = some .local ∨ sc.names.lookup x = some .cell ∨ sc.names.lookup x = some .free
def Loc (sc : Scope) (x : Str) : Prop := sc.names.lookup x = some .local ∨ sc.names.lookup x = some .cell
def Look (env : Env) (h : Heap) (m : Str → Option Value) (x : Str) (u : Value) : Prop :=
  (env.kindOf x = some .local ∧ m x = some u) ∨ ((env.kindOf x = some .cell ∨ env.kindOf x = some .free) ∧ ∃ c, env.cells.lookup x = some c ∧ h.IsCell c (some u))

structure Cx.Ok (X : Cx) : Prop where
  mod : Mod X.K X.mg X.base
  kind : X.env.scope.kind = .function
  glob : X.env.globals = mainGlobals
  blt : X.env.builtins = builtinsNs
  above : X.s_0.heap.objs.size ≤ X.env.locals
  inj : ∀ x y c, X.env.cells.lookup x = some c → X.env.cells.lookup y = some c → x = y
  has : ∀ x, (X.env.kindOf x = some .cell ∨ X.env.kindOf x = some .free) → ∃ c, X.env.cells.lookup x = some c
  cab : ∀ x c, X.fn x = true → X.env.cells.lookup x = some c → X.s_0.heap.objs.size ≤ c
  hd : X.calm = true → X.A.handled = none
  frames : X.A.frames = some X.stack
  stk : X.stack = X.outer ∨ (X.stack = X.env :: X.outer ∧ X.env.frame = some X.env.locals)
  exf : ∀ b ∈ X.ex, b ≠ X.env.locals ∧ ∀ x c, X.env.cells.lookup x = some c → c ≠ b
  bs : ∀ b o, X.base.get? b = some o → X.s_0.heap.get? b = some o ∧ X.H_0 b = none
  bsz : X.base.objs.size ≤ X.s_0.heap.objs.size
  noex : ∀ b o, X.base.get? b = some o → b ∉ X.ex
  exfs : ∀ b ∈ X.ex, b ∉ X.fs
  funs : X.s_0.heap.FunFrames X.base X.outer
  frf : ∀ b ∈ X.fs, X.H_0 b = none

structure Inv (X : Cx) (pins : List (Addr × Obj)) (σ : List (Option V)) (H : Hp) (s : Shared) : Prop where
  ok : X.Ok
  os : s.os = X.s_0.os
  bare : AllBare s.gens
  base : Un X.fs X.ex X.H_0 H X.s_0.heap s.heap
  loc : ∃ m, s.heap.Ns X.env.locals m ∧ ∀ (i : Nat) (x : Str) (v : V), X.N[i]? = some x → σ[i]? = some (some v) → Vis X.env.scope x → ∃ u, RelV v u ∧ Look X.env s.heap m x u
  cell : ∀ x c, X.env.cells.lookup x = some c → ∃ v, s.heap.IsCell c v
  free : H X.env.locals = none
  freeC : ∀ x c, X.env.cells.lookup x = some c → H c = none
  pin : ∀ p ∈ X.pn ++ pins, s.heap.get? p.1 = some p.2 ∧ H p.1 = none ∧ p.1 ≠ X.env.locals ∧ p.1 ∉ X.fs ∧ ∀ v, p.2.data ≠ .cell v
  hok : HOk X.prog X.w H s.heap
  len : σ.length = X.N.length

section
variable {X : Cx} {pins : List (Addr × Obj)} {σ : List (Option V)} {H H' : Hp} {s : Shared} {h' : Heap}

theorem Cx.Ok.nofr (ok : X.Ok) {b : Addr} {o : Obj} (e : X.base.get? b = some o) : b ∉ X.fs := fun hb => by
  have := (ok.funs.mem hb).1
  rw [e] at this; cases this
theorem Inv.bs (I : Inv X pins σ H s) : ∀ b o, X.base.get? b = some o → s.heap.get? b = some o ∧ H b = none := fun b o e =>
  ⟨I.base.keep b o (I.ok.bs b o e).1 (I.ok.bs b o e).2 (I.ok.nofr e) (I.ok.noex b o e), I.base.free b o (I.ok.bs b o e).1 (I.ok.bs b o e).2 (I.ok.noex b o e)⟩
theorem Inv.bk (I : Inv X pins σ H s) : ∀ b o, X.base.get? b = some o → s.heap.get? b = some o := fun b o e => (I.bs b o e).1
theorem Inv.mod (I : Inv X pins σ H s) : Mod X.K X.mg X.base := I.ok.mod
theorem Inv.kIn (I : Inv X pins σ H s) : X.K.In s.heap := I.ok.mod.kin.keeps I.bk
theorem Inv.lt (I : Inv X pins σ H s) : X.env.locals < s.heap.objs.size := let ⟨_, hn, _⟩ := I.loc; hn.lt
theorem Inv.sz (I : Inv X pins σ H s) : X.s_0.heap.objs.size ≤ s.heap.objs.size := Nat.le_trans I.ok.above (Nat.le_of_lt I.lt)
theorem Inv.nofs (I : Inv X pins σ H s) {a : Addr} (h : s.heap.objs.size ≤ a) : a ∉ X.fs := fun hb => by
  obtain ⟨_, o, ho, _⟩ := I.ok.funs.mem hb
  exact absurd (Nat.lt_of_lt_of_le (Heap.lt_size ho) (Nat.le_trans I.sz h)) (Nat.lt_irrefl _)
theorem Inv.cne (I : Inv X pins σ H s) : ∀ x c, X.env.cells.lookup x = some c → c ≠ X.env.locals := fun x c e z => by
  obtain ⟨v, o, ho, hd⟩ := I.cell x c e
  obtain ⟨m, ⟨o', es, ep, ho', hd', _⟩, _⟩ := I.loc
  rw [z, ho'] at ho; cases ho; rw [hd'] at hd; cases hd
theorem Inv.funs (I : Inv X pins σ H s) : s.heap.FunFrames X.base X.outer := by
  have all : ∀ (l : List Env), (∀ b ∈ frs l, b ∈ X.fs) → X.s_0.heap.FunFrames X.base l → s.heap.FunFrames X.base l := by
    intro l
    induction l with
    | nil => intro _ _; trivial
    | cons env r ih =>
      intro hs hl
      obtain ⟨hk, ⟨L, o, hf, hn, ho, hd⟩, hr⟩ := hl
      have hL : L ∈ X.fs := hs L (by unfold frs; rw [List.filterMap_cons, hf]; exact List.mem_cons_self)
      obtain ⟨sl, e⟩ := I.base.slot L o ho (I.ok.frf L hL) hL fun z => I.ok.exfs L z hL
      exact ⟨hk, ⟨L, _, hf, hn, e, hd⟩, ih (fun b hb => hs b (by unfold frs; rw [List.filterMap_cons, hf]; exact List.mem_cons_of_mem _ hb)) hr⟩
  exact all X.outer (fun _ hb => hb) I.ok.funs


theorem Inv.stack (I : Inv X pins σ H s) : s.heap.FunFrames X.base X.stack := by
  rcases I.ok.stk with e | ⟨e, hf⟩
  · rw [e]; exact I.funs
  · rw [e]
    obtain ⟨m, hn, _⟩ := I.loc
    refine .cons (by rw [I.ok.kind]; decide) hf hn ?_ I.funs
    exact Heap.get?_none_of_le (Nat.le_trans I.ok.bsz I.ok.above)
theorem Inv.stkSub (I : Inv X pins σ H s) : ∀ b ∈ frs X.stack, b ∈ X.env.locals :: X.fs := fun b hb => by
  rcases I.ok.stk with e | ⟨e, hf⟩
  · rw [e] at hb; exact List.mem_cons_of_mem _ hb
  · rw [e] at hb
    unfold frs at hb
    rw [List.filterMap_cons, hf] at hb
    exact hb
theorem Inv.stkFree (I : Inv X pins σ H s) : ∀ b ∈ frs X.stack, H b = none := fun b hb => by
  rcases List.mem_cons.mp (I.stkSub b hb) with e | hb
  · rw [e]; exact I.free
  · obtain ⟨_, o, ho, _⟩ := I.ok.funs.mem hb
    exact I.base.free b o ho (I.ok.frf b hb) fun z => I.ok.exfs b z hb


theorem Inv.step {g' : Array GenState} {t' : Nat} {d' : Drawn} {ch : List Addr} (I : Inv X pins σ H s)
    (hch : ∀ b ∈ ch, (b ∈ X.ex ∨ X.s_0.heap.objs.size ≤ b) ∧ b ≠ X.env.locals ∧ (∀ x c, X.env.cells.lookup x = some c → c ≠ b) ∧ ∀ p ∈ X.pn ++ pins, p.1 ≠ b)
    (keep : ∀ b o, b ≠ X.env.locals → b ∉ X.fs → b ∉ ch → s.heap.get? b = some o → H b = none → h'.get? b = some o)
    (slot : ∀ b o, b ≠ X.env.locals → b ∈ X.fs → b ∉ ch → s.heap.get? b = some o → H b = none → ∃ sl, h'.get? b = some { o with slots := sl }) (free : ∀ b o, b ∉ ch → s.heap.get? b = some o → H b = none → H' b = none)
    (there : ∀ b o, b ∉ ch → s.heap.get? b = some o → ∃ o', h'.get? b = some o')
    (tups : ∀ b xs, H b = some (.tup xs) → H' b = some (.tup xs)) (frzs : ∀ b o u, H b = some (.frz o u) → H' b = some (.frz o u)) (tbls : ∀ b ps, H b = some (.tbl ps) → ∃ more, H' b = some (.tbl (ps ++ more)))
    (ns : ∀ m, s.heap.Ns X.env.locals m → h'.Ns X.env.locals m) (hok : HOk X.prog X.w H' h') (hg : AllBare g') :
    Inv X pins σ H' { s with heap := h', gens := g', drawn := d', toks := t' } := by
  have neL : ∀ b o, X.s_0.heap.get? b = some o → b ≠ X.env.locals := fun b o e => Nat.ne_of_lt (Nat.lt_of_lt_of_le (Heap.lt_size e) I.ok.above)
  have neC : ∀ b o, X.s_0.heap.get? b = some o → b ∉ X.ex → b ∉ ch := fun b o e hx hb => by
    rcases (hch b hb).1 with z | z
    · exact hx z
    · exact absurd (Nat.lt_of_lt_of_le (Heap.lt_size e) z) (Nat.lt_irrefl _)
  have cellK : ∀ x c, X.env.cells.lookup x = some c → ∀ v, s.heap.IsCell c v → h'.IsCell c v := fun x c e v ⟨o, ho, hd⟩ => by
    have nch : c ∉ ch := fun z => (hch c z).2.2.1 x c e rfl
    by_cases hc : c ∈ X.fs
    · obtain ⟨sl, q⟩ := slot c o (I.cne x c e) hc nch ho (I.freeC x c e)
      exact ⟨_, q, hd⟩
    · exact ⟨o, keep c o (I.cne x c e) hc nch ho (I.freeC x c e), hd⟩
  refine ⟨I.ok, I.os, hg, ⟨fun b o e n hb hx => ?_, fun b o e n hb hx => ?_, fun b o e n hx => ?_, fun b o e hx => ?_, fun b xs e => tups b xs (I.base.tups b xs e), fun b o xs e => frzs b o xs (I.base.frzs b o xs e), fun b ps e => ?_⟩, ?_, fun x c e => ?_, ?_, fun x c e => ?_, fun p hp => ?_, hok, I.len⟩
  · exact keep b o (neL b o e) hb (neC b o e hx) (I.base.keep b o e n hb hx) (I.base.free b o e n hx)
  · obtain ⟨sl, e1⟩ := I.base.slot b o e n hb hx
    obtain ⟨sl', e2⟩ := slot b _ (neL b o e) hb (neC b o e hx) e1 (I.base.free b o e n hx)
    exact ⟨sl', e2⟩
  · obtain ⟨o', e1⟩ := I.base.there b o e hx
    exact free b o' (neC b o e hx) e1 (I.base.free b o e n hx)
  · obtain ⟨o', e1⟩ := I.base.there b o e hx
    exact there b o' (neC b o e hx) e1
  · obtain ⟨m1, e1⟩ := I.base.tbls b ps e
    obtain ⟨m2, e2⟩ := tbls b _ e1
    exact ⟨m1 ++ m2, by rw [e2, Array.append_assoc]⟩
  · obtain ⟨m, hn, hl⟩ := I.loc
    refine ⟨m, ns m hn, fun i x v e1 e2 e3 => ?_⟩
    obtain ⟨u, r, l⟩ := hl i x v e1 e2 e3
    refine ⟨u, r, ?_⟩
    rcases l with l | ⟨k, c, e, z⟩
    · exact .inl l
    · exact .inr ⟨k, c, e, cellK x c e _ z⟩
  · obtain ⟨v, z⟩ := I.cell x c e
    exact ⟨v, cellK x c e v z⟩
  · obtain ⟨m, ⟨o, _, _, ho, _⟩, _⟩ := I.loc
    exact free _ o (fun z => (hch _ z).2.1 rfl) ho I.free
  · obtain ⟨v, o, ho, hd⟩ := I.cell x c e
    exact free c o (fun z => (hch c z).2.2.1 x c e rfl) ho (I.freeC x c e)
  · obtain ⟨e, n, ne, nf, d⟩ := I.pin p hp
    have nch : p.1 ∉ ch := fun z => (hch p.1 z).2.2.2 p hp rfl
    exact ⟨keep p.1 p.2 ne nf nch e n, free p.1 p.2 nch e n, ne, nf, d⟩

theorem Inv.un {t' : Nat} (I : Inv X pins σ H s) (u : Un X.fs [] H H' s.heap h') (hok : HOk X.prog X.w H' h') : Inv X pins σ H' { s with heap := h', toks := t' } := by
  obtain ⟨m, ⟨o, es, ep, ho, r⟩, _⟩ := id I.loc
  obtain ⟨sl, hL⟩ := u.any ho I.free (by simp)
  exact I.step (g' := s.gens) (d' := s.drawn) (ch := []) (fun _ z => nomatch z) (fun b o _ hb _ e n => u.keep b o e n hb (by simp)) (fun b o _ hb _ e n => u.slot b o e n hb (by simp)) (fun b o _ e n => u.free b o e n (by simp)) (fun b o _ e => u.there b o e (by simp)) u.tups u.frzs u.tbls (fun m' hm => by
    obtain ⟨o', es', ep', ho', r'⟩ := hm
    rw [ho] at ho'; cases ho'
    exact ⟨_, es', ep', hL, r'⟩) hok I.bare

theorem Inv.call {g' : Array GenState} {t' : Nat} {d' : Drawn} {ch : List Addr} (I : Inv X pins σ H s) (u : Un (frs X.stack) ch H H' s.heap h') (hok : HOk X.prog X.w H' h') (hg : AllBare g')
    (hch : ∀ b ∈ ch, (b ∈ X.ex ∨ X.s_0.heap.objs.size ≤ b) ∧ b ≠ X.env.locals ∧ (∀ x c, X.env.cells.lookup x = some c → c ≠ b) ∧ ∀ p ∈ X.pn ++ pins, p.1 ≠ b) :
    Inv X pins σ H' { s with heap := h', gens := g', drawn := d', toks := t' } := by
  obtain ⟨m, ⟨o, es, ep, ho, r⟩, _⟩ := id I.loc
  obtain ⟨sl, hL⟩ := u.any ho I.free fun z => (hch _ z).2.1 rfl
  exact I.step (ch := ch) hch (fun b o hL hb hc e n => u.keep b o e n (fun z => (List.mem_cons.mp (I.stkSub b z)).elim hL hb) hc) (fun b o _ _ hc e n => u.any e n hc) (fun b o hc e n => u.free b o e n hc) (fun b o hc e => u.there b o e hc) u.tups u.frzs u.tbls (fun m' hm => by
    obtain ⟨o', es', ep', ho', r'⟩ := hm
    rw [ho] at ho'; cases ho'
    exact ⟨_, es', ep', hL, r'⟩) hok hg

theorem Inv.turned {t' : Nat} {it : Addr} (I : Inv X pins σ H s) (k : ∀ b o, b ≠ it → s.heap.get? b = some o → h'.get? b = some o) (hn : H it = none) (hL : it ≠ X.env.locals)
    (h1 : it ∈ X.ex ∨ X.s_0.heap.objs.size ≤ it) (h2 : ∀ x c, X.env.cells.lookup x = some c → c ≠ it) (h3 : ∀ p ∈ X.pn ++ pins, p.1 ≠ it) : Inv X pins σ H { s with heap := h', toks := t' } := by
  have nit : ∀ b u, H b = some u → b ≠ it := fun b u e z => by rw [z, hn] at e; cases e
  refine I.step (g' := s.gens) (d' := s.drawn) (ch := [it]) (fun b hb => ?_) (fun b o _ _ hc e _ => k b o (fun z => hc (by simp [z])) e) (fun b o _ _ hc e _ => ⟨o.slots, k b o (fun z => hc (by simp [z])) e⟩) (fun _ _ _ _ n => n)
    (fun b o hc e => ⟨o, k b o (fun z => hc (by simp [z])) e⟩) (fun _ _ e => e) (fun _ _ _ e => e) (fun b ps e => ⟨#[], by rw [e]; simp⟩) (fun m hm => ?_) (fun b u e => ?_) I.bare
  · have e : b = it := by simpa using hb
    subst e
    exact ⟨h1, hL, h2, h3⟩
  · obtain ⟨o, es, ep, ho, r⟩ := hm
    exact ⟨o, es, ep, k _ o (Ne.symm hL) ho, r⟩
  · refine (I.hok b u e).stay (fun c v hc q => k c v ?_ q) (fun _ q => q) fun _ _ q => q
    rcases hc with z | z
    · rw [z]; exact nit b u e
    · exact nit c _ z
theorem Inv.tok (I : Inv X pins σ H s) (t : Nat) : Inv X pins σ H { s with toks := t } := I.un (h' := s.heap) (t' := t) Un.refl I.hok

theorem Inv.kept {t' : Nat} (I : Inv X pins σ H s) (k : ∀ b u, s.heap.get? b = some u → h'.get? b = some u) : Inv X pins σ H { s with heap := h', toks := t' } := I.un (Un.kept k) (I.hok.kept k)

theorem Inv.laid {a : Addr} {o : HO} {t' : Nat} (I : Inv X pins σ H s) (k : ∀ b u, s.heap.get? b = some u → h'.get? b = some u) (hp : s.heap.objs.size ≤ a) (new : ObjOk X.prog X.w (upd H a o) h' a o) :
    Inv X pins σ (upd H a o) { s with heap := h', toks := t' } := I.un (Un.laid k hp (I.hok.fresh hp)) (I.hok.laid k hp new)

theorem Inv.write {x e : Addr} {o : HO} {t' : Nat} (I : Inv X pins σ H s) (mu : Mut (H x)) (he : e = x ∨ H e = some (.own x)) (k : ∀ b u, b ≠ e → s.heap.get? b = some u → h'.get? b = some u) (heo : ∃ u, h'.get? e = some u)
    (new : ObjOk X.prog X.w (upd H x o) h' x o) : Inv X pins σ (upd H x o) { s with heap := h', toks := t' } := I.un (Un.write mu he k heo) (I.hok.write mu he k heo new)

theorem Inv.weak {σ' : List (Option V)} (I : Inv X pins σ H s) (hl : σ'.length = σ.length) (w : ∀ (i : Nat) v, σ'[i]? = some (some v) → σ[i]? = some (some v)) : Inv X pins σ' H s :=
  ⟨I.ok, I.os, I.bare, I.base, let ⟨m, hn, hl'⟩ := I.loc; ⟨m, hn, fun i x v e1 e2 e3 => hl' i x v e1 (w i v e2) e3⟩, I.cell, I.free, I.freeC, I.pin, I.hok, hl.trans I.len⟩
theorem Inv.pins_of {pins' : List (Addr × Obj)} (I : Inv X pins σ H s) (h : ∀ p ∈ pins', s.heap.get? p.1 = some p.2 ∧ H p.1 = none ∧ p.1 ≠ X.env.locals ∧ p.1 ∉ X.fs ∧ ∀ v, p.2.data ≠ .cell v) : Inv X pins' σ H s :=
  ⟨I.ok, I.os, I.bare, I.base, I.loc, I.cell, I.free, I.freeC, fun p hp => (List.mem_append.mp hp).elim (fun z => I.pin p (List.mem_append_left _ z)) (h p), I.hok, I.len⟩

theorem nodup_ix {N : List Str} (hN : N.Nodup) {i j : Nat} {x : Str} (a : N[i]? = some x) (b : N[j]? = some x) : i = j := by
  obtain ⟨h1, e1⟩ := List.getElem?_eq_some_iff.mp a
  obtain ⟨h2, e2⟩ := List.getElem?_eq_some_iff.mp b
  exact (List.getElem_inj hN).mp (e1.trans e2.symm)


theorem store_ok2 {M : Model} {A : Around} {E : Value → Shared → Prop} {i : Nat} {x : Str} {v : V} {u : Value} {Q : Unit → Shared → Prop} (I : Inv X pins σ H s) (hN : X.N.Nodup) (hi : X.N[i]? = some x) (hx : Loc X.env.scope x) (r : RelV v u)
    (h : ∀ s', Inv X pins (σ.set i (some v)) H s' → (∃ a, Heap.SameBut a s.heap s'.heap ∧ (a = X.env.locals ∨ X.env.cells.lookup x = some a)) → Q () s') (hf : X.fn x = true ∨ X.env.scope.names.lookup x = some .local := by first | exact .inl rfl | exact .inr rfl | assumption) : wpAny M A (storeName X.env x u) Q E s := by
  obtain ⟨m, hn, hl⟩ := id I.loc
  have hcls : (X.env.scope.kind == .class || (X.env.scope.kind == .module && X.env.locals != X.env.globals)) = false := by rw [I.ok.kind]; rfl
  have hiσ : i < σ.length := by rw [I.len]; exact (List.getElem?_eq_some_iff.mp hi).1
  have cne := I.cne
  have tracked : ∀ {a : Addr} {h' : Heap}, (∃ o, s.heap.get? a = some o ∧ H a = none) → Heap.SameBut a s.heap h' → HOk X.prog X.w H h' := fun {a h'} ha hs b ob e => by
    obtain ⟨_, _, hfree⟩ := ha
    refine (I.hok b ob e).stay (fun c w' hc q => (hs.2 c ?_).trans q) (fun _ q => q) fun _ _ q => q
    rintro rfl
    rcases hc with rfl | hc
    · rw [hfree] at e; cases e
    · rw [hfree] at hc; cases hc
  rcases hx with hk | hk
  · refine wpAny_storeName_local hk hn (fun h' hn' hs => ?_) hcls
    obtain ⟨oL, _, _, hoL, _⟩ := id hn
    refine h _ ⟨I.ok, I.os, I.bare, ⟨fun b o e n hb hx => ?_, fun b o e n hb hx => ?_, I.base.free, fun b o e hx => ?_, I.base.tups, I.base.frzs, I.base.tbls⟩, ⟨_, hn', fun j y v' e1 e2 e3 => ?_⟩, fun y c e => ?_, I.free, I.freeC, fun p hp => ?_, tracked ⟨oL, hoL, I.free⟩ hs, by simpa using I.len⟩ ⟨_, hs, .inl rfl⟩
    · exact (hs.2 b (Nat.ne_of_lt (Nat.lt_of_lt_of_le (Heap.lt_size e) I.ok.above))).trans (I.base.keep b o e n hb hx)
    · obtain ⟨sl, e1⟩ := I.base.slot b o e n hb hx
      exact ⟨sl, (hs.2 b (Nat.ne_of_lt (Nat.lt_of_lt_of_le (Heap.lt_size e) I.ok.above))).trans e1⟩
    · obtain ⟨o', e1⟩ := I.base.there b o e hx
      exact ⟨o', (hs.2 b (Nat.ne_of_lt (Nat.lt_of_lt_of_le (Heap.lt_size e) I.ok.above))).trans e1⟩
    · by_cases hj : j = i
      · subst hj
        rw [hi] at e1; cases e1
        rw [List.getElem?_set_self hiσ] at e2
        cases e2
        exact ⟨u, r, .inl ⟨hk, by simp⟩⟩
      · rw [List.getElem?_set_ne (Ne.symm hj)] at e2
        obtain ⟨u', r', q⟩ := hl j y v' e1 e2 e3
        refine ⟨u', r', ?_⟩
        rcases q with ⟨k, e⟩ | ⟨k, c, e, z⟩
        · refine .inl ⟨k, ?_⟩
          have : y ≠ x := fun e => hj (nodup_ix hN e1 (e ▸ hi))
          simp [this, e]
        · exact .inr ⟨k, c, e, z.sameBut hs (cne y c e)⟩
    · obtain ⟨w', z⟩ := I.cell y c e
      exact ⟨w', z.sameBut hs (cne y c e)⟩
    · obtain ⟨e, n, ne, nf, d⟩ := I.pin p hp
      exact ⟨(hs.2 p.1 ne).trans e, n, ne, nf, d⟩
  · have hfn : X.fn x = true := by
      rcases hf with z | z
      · exact z
      · rw [z] at hk; cases hk
    obtain ⟨c, hc⟩ := I.ok.has x (.inl hk)
    obtain ⟨w', z⟩ := I.cell x c hc
    refine wpAny_storeName_cell I.ok.kind hk hc z (fun h' hc' hs => ?_)
    obtain ⟨oc, hoc, hocd⟩ := id z
    refine h { s with heap := h' } ⟨I.ok, I.os, I.bare, ⟨fun b o e n hb hx => ?_, fun b o e n hb hx => ?_, I.base.free, fun b o e hx => ?_, I.base.tups, I.base.frzs, I.base.tbls⟩, ⟨m, hn.sameBut hs (Ne.symm (cne x c hc)), fun j y v' e1 e2 e3 => ?_⟩, fun y c' e => ?_, I.free, I.freeC, fun p hp => ?_, tracked ⟨oc, hoc, I.freeC x c hc⟩ hs, by simpa using I.len⟩ ⟨c, hs, .inr hc⟩
    · exact (hs.2 b (Nat.ne_of_lt (Nat.lt_of_lt_of_le (Heap.lt_size e) (I.ok.cab x c hfn hc)))).trans (I.base.keep b o e n hb hx)
    · obtain ⟨sl, e1⟩ := I.base.slot b o e n hb hx
      exact ⟨sl, (hs.2 b (Nat.ne_of_lt (Nat.lt_of_lt_of_le (Heap.lt_size e) (I.ok.cab x c hfn hc)))).trans e1⟩
    · obtain ⟨o', e1⟩ := I.base.there b o e hx
      exact ⟨o', (hs.2 b (Nat.ne_of_lt (Nat.lt_of_lt_of_le (Heap.lt_size e) (I.ok.cab x c hfn hc)))).trans e1⟩
    · by_cases hj : j = i
      · subst hj
        rw [hi] at e1; cases e1
        rw [List.getElem?_set_self hiσ] at e2
        cases e2
        exact ⟨u, r, .inr ⟨.inl hk, c, hc, hc'⟩⟩
      · rw [List.getElem?_set_ne (Ne.symm hj)] at e2
        obtain ⟨u', r', q⟩ := hl j y v' e1 e2 e3
        refine ⟨u', r', ?_⟩
        rcases q with q | ⟨k, c', e, z'⟩
        · exact .inl q
        · refine .inr ⟨k, c', e, z'.sameBut hs ?_⟩
          rintro rfl
          exact hj (nodup_ix hN e1 (I.ok.inj _ _ _ e hc ▸ hi))
    · by_cases hcc : c' = c
      · subst hcc; exact ⟨_, hc'⟩
      · obtain ⟨w2, z2⟩ := I.cell y c' e
        exact ⟨w2, z2.sameBut hs hcc⟩
    · obtain ⟨e, n, ne, nf, d⟩ := I.pin p hp
      refine ⟨(hs.2 p.1 ?_).trans e, n, ne, nf, d⟩
      intro q
      rw [q, hoc] at e
      have q' : oc = p.2 := Option.some.inj e
      exact d w' (by rw [← q']; exact hocd)
theorem store_ok {M : Model} {A : Around} {E : Value → Shared → Prop} {i : Nat} {x : Str} {v : V} {u : Value} {Q : Unit → Shared → Prop} (I : Inv X pins σ H s) (hN : X.N.Nodup) (hi : X.N[i]? = some x) (hx : Loc X.env.scope x) (r : RelV v u)
    (h : ∀ s', Inv X pins (σ.set i (some v)) H s' → Q () s') (hf : X.fn x = true ∨ X.env.scope.names.lookup x = some .local := by first | exact .inl rfl | exact .inr rfl | assumption) : wpAny M A (storeName X.env x u) Q E s :=
  store_ok2 I hN hi hx r (fun s' I' _ => h s' I') hf

theorem Inv.call' {s' : Shared} {ch : List Addr} (I : Inv X pins σ H s) (ho : s'.os = s.os) (u : Un (frs X.stack) ch H H' s.heap s'.heap) (hok : HOk X.prog X.w H' s'.heap) (hg : AllBare s'.gens)
    (hch : ∀ b ∈ ch, (b ∈ X.ex ∨ X.s_0.heap.objs.size ≤ b) ∧ b ≠ X.env.locals ∧ (∀ x c, X.env.cells.lookup x = some c → c ≠ b) ∧ ∀ p ∈ X.pn ++ pins, p.1 ≠ b) : Inv X pins σ H' s' := by
  obtain ⟨h', g', d', t', o'⟩ := s'
  have e : o' = s.os := ho
  subst e
  exact I.call (g' := g') (t' := t') (d' := d') u hok hg hch
end



abbrev XK := Value → Option Addr → Hp → Prop
abbrev St := List (Option V)
abbrev VK := V → Hp → Prop

abbrev TE := St → Hp → VK → Prop
abbrev TT := St → Hp → (Bool → Hp → Prop) → Prop
abbrev TA := St → Hp → (List V → Hp → Prop) → Prop

structure Ends where
  nx : St → Hp → Prop
  rt : VK
  bk : St → Hp → Prop := fun _ _ => False
  ct : St → Hp → Prop := fun _ _ => False
abbrev TS := Ends → St → Hp → Prop

def EP (X : Cx) (pins : List (Addr × Obj)) (σ : St) (Q : VK) (u : Value) (s' : Shared) : Prop := ∃ v H', Inv X pins σ H' s' ∧ RelV v u ∧ Q v H'
def TP (X : Cx) (pins : List (Addr × Obj)) (σ : St) (Q : Bool → Hp → Prop) (b : Bool) (s' : Shared) : Prop := ∃ H', Inv X pins σ H' s' ∧ Q b H'
def AP (X : Cx) (pins : List (Addr × Obj)) (σ : St) (Q : List V → Hp → Prop) (us : List Value) (s' : Shared) : Prop := ∃ vs H', Inv X pins σ H' s' ∧ Vals vs us ∧ Q vs H'
def SP (X : Cx) (pins : List (Addr × Obj)) (D : Ends) (f : Flow) (s' : Shared) : Prop :=
  match f with
  | .next => ∃ σ' H', Inv X pins σ' H' s' ∧ D.nx σ' H'
  | .brk => ∃ σ' H', Inv X pins σ' H' s' ∧ D.bk σ' H'
  | .cont => ∃ σ' H', Inv X pins σ' H' s' ∧ D.ct σ' H'
  | .ret u => ∃ v σ' H', Inv X pins σ' H' s' ∧ RelV v u ∧ D.rt v H'

def PE (X : Cx) (e : Expr) (t : TE) : Prop :=
  ∀ (pins : List (Addr × Obj)) (s : Shared) (σ : St) (H : Hp) (Q : VK), Inv X pins σ H s → t σ H Q → wpAny (model X.prog X.w) X.A (eval e X.env) (EP X pins σ Q) X.xe s
def PT (X : Cx) (e : Expr) (t : TT) : Prop :=
  ∀ (pins : List (Addr × Obj)) (s : Shared) (σ : St) (H : Hp) (Q : Bool → Hp → Prop), Inv X pins σ H s → t σ H Q → wpAny (model X.prog X.w) X.A (isTrue e X.env (eval e X.env)) (TP X pins σ Q) X.xe s

def PW (X : Cx) (e : Expr) (t : TT) : Prop :=
  ∀ (whole : Sem Value) (pins : List (Addr × Obj)) (s : Shared) (σ : St) (H : Hp) (Q : Bool → Hp → Prop), Inv X pins σ H s → t σ H Q → wpAny (model X.prog X.w) X.A (isTrue e X.env whole) (TP X pins σ Q) X.xe s
theorem PW.pt {X : Cx} {e : Expr} {t : TT} (h : PW X e t) : PT X e t := h _

def PA (X : Cx) (es : List Expr) (t : TA) : Prop :=
  ∀ (pos : Pos) (pins : List (Addr × Obj)) (s : Shared) (σ : St) (H : Hp) (Q : List V → Hp → Prop), Inv X pins σ H s → t σ H Q → wpAny (model X.prog X.w) X.A (spliced (backTo pos (starEach es X.env))) (AP X pins σ Q) X.xe s
def PS (X : Cx) (st : Stmt) (t : TS) : Prop :=
  ∀ (pins : List (Addr × Obj)) (s : Shared) (σ : St) (H : Hp) (D : Ends), Inv X pins σ H s → t D σ H → wpAny (model X.prog X.w) X.A (exec st X.env) (SP X pins D) X.xe s
def PSs (X : Cx) (st : List Stmt) (t : TS) : Prop :=
  ∀ (pins : List (Addr × Obj)) (s : Shared) (σ : St) (H : Hp) (D : Ends), Inv X pins σ H s → t D σ H → wpAny (model X.prog X.w) X.A (execs st X.env) (SP X pins D) X.xe s

theorem thn {α : Type} {t : Sem α} {Q Q' : α → Shared → Prop} {M : Model} {A : Around} {E : Value → Shared → Prop} {s : Shared} (h : wpAny M A t Q E s) (hQ : ∀ a s, Q a s → Q' a s) : wpAny M A t Q' E s := wpAny_mono h hQ fun _ _ x => x
end L2

namespace L2
open PySem PySem.Spec PyProof.Rows
section
variable {X : Cx}


theorem bin {a b : Expr} {ta tb : TE} (ha : PE X a ta) (hb : PE X b tb) {pins : List (Addr × Obj)} {s : Shared} {σ : St} {H : Hp} {R : V → V → Hp → Prop} (I : Inv X pins σ H s) (h : ta σ H fun x H1 => tb σ H1 fun y H2 => R x y H2)
    {α : Type} {Q : α → Shared → Prop} {f : Value → Value → Sem α}
    (hf : ∀ v u s2 x y H2, Inv X pins σ H2 s2 → RelV x v → RelV y u → R x y H2 → wpAny (model X.prog X.w) X.A (f v u) Q X.xe s2) :
    wpAny (model X.prog X.w) X.A (eval a X.env) (fun v s₁ => wpAny (model X.prog X.w) X.A (eval b X.env) (fun u s₂ => wpAny (model X.prog X.w) X.A (f v u) Q X.xe s₂) X.xe s₁) X.xe s := by
  refine thn (ha pins s σ H _ I h) fun v s1 ⟨x, H1, I1, r1, q1⟩ => ?_
  refine thn (hb pins s1 σ H1 _ I1 q1) fun u s2 ⟨y, H2, I2, r2, q2⟩ => ?_
  exact hf v u s2 x y H2 I2 r1 r2 q2


def tVar (i : Nat) : TE := fun σ H Q => ∃ v, σ[i]? = some (some v) ∧ Q v H
def tC (v : V) : TE := fun _ H Q => Q v H
theorem pe_var {i : Nat} {x : Str} {pos : Pos} (hN : X.N[i]? = some x) (hv : Vis X.env.scope x) (hd : (x == ("__debug__" : Str)) = false := by decide) (hcd : (x == ("__classdict__" : Str)) = false := by decide) : PE X (.Name x pos) (tVar i) := by
  intro pins s σ H Q I h
  obtain ⟨v, e, h⟩ := h
  obtain ⟨m, hn, hl⟩ := I.loc
  obtain ⟨u, r, l⟩ := hl i x v hN e hv
  have fin : EP X pins σ Q u s := ⟨v, H, I, r, h⟩
  rcases l with ⟨hk, hm⟩ | ⟨hk, c, hc, hcell⟩
  · exact wpAny_Name (wpAny_loadName_local I.ok.kind hk hn hm fin) hd
  · rcases hk with hk | hk
    · exact wpAny_Name (wpAny_loadName_cell I.ok.kind hk hc hcell fin) hd
    · exact wpAny_Name (wpAny_loadName_free I.ok.kind hk hc hcell fin hcd) hd
theorem pe_int {i j pos} : PE X (.Constant (.int i) j pos) (tC (.int i)) := fun _ _ _ H _ I h => wpAny_Constant_int ⟨.int i, H, I.tok _, ⟨_, rfl⟩, h⟩
theorem pe_bl {b j pos} : PE X (.Constant (.bool b) j pos) (tC (.bl b)) := fun _ _ _ H _ I h => Constant_bool ⟨.bl b, H, I, rfl, h⟩
def Gl (X : Cx) (x : Str) : Prop := X.env.kindOf x = some .globalImplicit
theorem ld_glob {E : Value → Shared → Prop} {pins : List (Addr × Obj)} {s : Shared} {σ : St} {H : Hp} {x : Str} {u : Value} {pos : Pos} {Q : Value → Shared → Prop} (I : Inv X pins σ H s) (hg : Gl X x) (hm : X.mg x = some u) (h : Q u s)
    (hd : (x == ("__debug__" : Str)) = false := by decide) : wpAny (model X.prog X.w) X.A (eval (.Name x pos) X.env) Q E s :=
  Calls.Name_function_global I.ok.kind hg (Calls.loadGlobal_global (by rw [I.ok.glob]; exact I.mod.glob.keeps I.bk) hm h) hd
theorem ld_blt {E : Value → Shared → Prop} {pins : List (Addr × Obj)} {s : Shared} {σ : St} {H : Hp} {x : Str} {u : Value} {pos : Pos} {Q : Value → Shared → Prop} (I : Inv X pins σ H s) (hg : Gl X x) (hm : X.mg x = none) (hv : bootBuiltins x = some u) (h : Q u s)
    (hn : x ≠ "__name__" := by decide) (hd : (x == ("__debug__" : Str)) = false := by decide) : wpAny (model X.prog X.w) X.A (eval (.Name x pos) X.env) Q E s := by
  obtain ⟨mb, h1, h2⟩ := I.mod.blt
  exact Calls.Name_function_global I.ok.kind hg (Calls.loadGlobal_builtin (by rw [I.ok.glob]; exact I.mod.glob.keeps I.bk) hm (by rw [I.ok.blt]; exact h1.keeps I.bk) ((h2 x hn).trans hv) h) hd

theorem pe_glob {x : Str} {v : V} {u : Value} {pos : Pos} (hg : Gl X x) (hm : X.mg x = some u) (r : RelV v u) (hd : (x == ("__debug__" : Str)) = false := by decide) : PE X (.Name x pos) (tC v) :=
  fun _ _ _ H _ I h => ld_glob I hg hm ⟨v, H, I, r, h⟩ hd
def t2I (ta tb : TE) (k : Int → Int → Hp → Prop) : St → Hp → Prop := fun σ H => ta σ H fun x H1 => tb σ H1 fun y H2 => ∃ i j, x = .int i ∧ y = .int j ∧ k i j H2
def tAdd (ta tb : TE) : TE := fun σ H Q => t2I ta tb (fun i j H2 => Q (.int (i + j)) H2) σ H
def tSub (ta tb : TE) : TE := fun σ H Q => t2I ta tb (fun i j H2 => Q (.int (i - j)) H2) σ H

def tMul (ta tb : TE) : TE := fun σ H Q => t2I ta tb (fun i j H2 => (-(2 ^ 64) < i ∧ i < 2 ^ 64) ∧ Q (.int (i * j)) H2) σ H
variable {a b : Expr} {ta tb : TE} {pos : Pos}
def PC (X : Cx) (op : CmpOp) (a b : Expr) (t : TE) : Prop :=
  ∀ (pins : List (Addr × Obj)) (s : Shared) (σ : St) (H : Hp) (Q : VK), Inv X pins σ H s → t σ H Q →
    wpAny (model X.prog X.w) X.A (eval a X.env) (fun v s₁ => wpAny (model X.prog X.w) X.A (eval b X.env) (fun u s₂ => wpAny (model X.prog X.w) X.A (compareOp op v u) (EP X pins σ Q) X.xe s₂) X.xe s₁) X.xe s
theorem nobehind (b : Expr) {op : CmpOp} (h : op ≠ .In) (h2 : op ≠ .NotIn) : behindInMarks op b = false := by
  have e1 : (op == CmpOp.In) = false := by cases op <;> first | rfl | exact absurd rfl h
  have e2 : (op == CmpOp.NotIn) = false := by cases op <;> first | rfl | exact absurd rfl h2
  cases b <;> simp [behindInMarks, e1, e2]
def tCmp (p : Int → Int → Bool) (ta tb : TE) : TE := fun σ H Q => t2I ta tb (fun i j H2 => Q (.bl (p i j)) H2) σ H
abbrev tLt : TE → TE → TE := tCmp fun i j => decide (i < j)
abbrev tLe : TE → TE → TE := tCmp fun i j => decide (i ≤ j)
abbrev tGt : TE → TE → TE := tCmp fun i j => decide (j < i)
abbrev tGe : TE → TE → TE := tCmp fun i j => decide (j ≤ i)
abbrev tEqI : TE → TE → TE := tCmp fun i j => decide (i = j)
abbrev tNeI : TE → TE → TE := tCmp fun i j => !decide (i = j)

theorem pc_int {op : CmpOp} {p : Int → Int → Bool} (ha : PE X a ta) (hb : PE X b tb)
    (rule : ∀ (i j : Int) (t u : Tok) (Q : Value → Shared → Prop) (s : Shared), Q (.bool (p i j)) s → wpAny (model X.prog X.w) X.A (compareOp op (.int i t) (.int j u)) Q X.xe s) : PC X op a b (tCmp p ta tb) := by
  intro pins s σ H Q I h
  refine bin ha hb I h fun v u s2 x y H2 I2 rx ry q => ?_
  obtain ⟨i, j, rfl, rfl, q⟩ := q
  obtain ⟨t, rfl⟩ := rx
  obtain ⟨t', rfl⟩ := ry
  exact rule i j t t' _ s2 ⟨.bl _, H2, I2, rfl, q⟩
theorem pc_lt (ha : PE X a ta) (hb : PE X b tb) : PC X .Lt a b (tLt ta tb) := pc_int ha hb fun _ _ _ _ _ _ h => lt_int h
theorem pc_le (ha : PE X a ta) (hb : PE X b tb) : PC X .LtE a b (tLe ta tb) := pc_int ha hb fun _ _ _ _ _ _ h => le_int h
theorem pc_gt (ha : PE X a ta) (hb : PE X b tb) : PC X .Gt a b (tGt ta tb) := pc_int ha hb fun _ _ _ _ _ _ h => gt_int h
theorem pc_ge (ha : PE X a ta) (hb : PE X b tb) : PC X .GtE a b (tGe ta tb) := pc_int ha hb fun _ _ _ _ _ _ h => ge_int h
theorem pc_eqI (ha : PE X a ta) (hb : PE X b tb) : PC X .Eq a b (tEqI ta tb) := pc_int ha hb fun _ _ _ _ _ _ h => eq_int (by rw [Bool.beq_eq_decide_eq]; exact h)
def tIsN (ta : TE) : TE := fun σ H Q => ta σ H fun x H1 => Q (.bl (decide (x = .non))) H1
def tNotN (ta : TE) : TE := fun σ H Q => ta σ H fun x H1 => Q (.bl (!decide (x = .non))) H1
def tB (t : TE) : TT := fun σ H Q => t σ H fun x H1 => ∃ c, x = .bl c ∧ Q c H1
theorem pe_cmp {op : CmpOp} {t : TE} (h : PC X op a b t) (h1 : behindInMarks op b = false := by first | exact nobehind _ (by decide) (by decide) | rfl) : PE X (.Compare a [op] [b] pos) t := fun pins s σ H Q I hw => wpAny_Compare1 (h pins s σ H Q I hw) h1
theorem pt_cmp {op : CmpOp} {t : TE} (h : PC X op a b t) (h1 : behindInMarks op b = false := by first | exact nobehind _ (by decide) (by decide) | rfl) : PT X (.Compare a [op] [b] pos) (tB t) := by
  intro pins s σ H Q I hw
  refine wpAny_isTrue_Compare1 (thn (h pins s σ H _ I hw) fun v s1 h1 => thn h1 fun u s2 h2 => thn h2 fun c s3 ⟨x, H1, I1, r1, q1⟩ => ?_) h1
  obtain ⟨d, rfl, q⟩ := q1
  cases r1
  exact wpAny_truthy_bool ⟨H1, I1, q⟩

theorem pt_val {e : Expr} {t : TE} (h : PE X e t) (he : ∀ whole, isTrue e X.env whole = (do let v ← whole; standAt e.pos; holding [v] (truthy v)) := by intro _; rfl) : PT X e (tB t) := by
  intro pins s σ H Q I hw
  refine isTrue_plain (thn (h pins s σ H _ I hw) fun v s1 ⟨x, H1, I1, r1, q1⟩ => ?_) (he _)
  obtain ⟨d, rfl, q⟩ := q1
  cases r1
  exact wpAny_truthy_bool ⟨H1, I1, q⟩


variable {tA tB' : TT} {rest : List Expr}
def tAnd (t u : TT) : TT := fun σ H Q => t σ H fun c H1 => if c = true then u σ H1 Q else Q false H1
def tOr (t u : TT) : TT := fun σ H Q => t σ H fun c H1 => if c = true then Q true H1 else u σ H1 Q
def tNot (t : TT) : TT := fun σ H Q => t σ H fun c H1 => Q (!c) H1
theorem pw_or1 (ha : PT X a tA) : PW X (.BoolOp .Or [a] pos) tA := by
  intro wh pins s σ H Q I h
  refine isTrue_or (thn (ha pins s σ H Q I h) fun c s1 e => ?_)
  cases c with
  | false => exact isTrue_or_nil e
  | true => exact e
theorem pw_or (ha : PT X a tA) (hb : PW X (.BoolOp .Or (b :: rest) pos) tB') : PW X (.BoolOp .Or (a :: b :: rest) pos) (tOr tA tB') := by
  intro wh pins s σ H Q I h
  refine isTrue_or (thn (ha pins s σ H _ I h) fun c s1 ⟨H1, I1, q1⟩ => ?_)
  cases c with
  | true => exact ⟨H1, I1, q1⟩
  | false => exact hb wh pins s1 σ H1 Q I1 q1
theorem pt_not (ha : PT X a tA) : PT X (.UnaryOp .Not a pos) (tNot tA) := by
  intro pins s σ H Q I h
  exact isTrue_not (ha pins s σ H (fun c H1 => Q (!c) H1) I h)

def tAndV (ta tb : TE) : TE := fun σ H Q => ta σ H fun x H1 => ∃ c, x = .bl c ∧ if c = true then tb σ H1 Q else Q (.bl false) H1
def tOrV (ta tb : TE) : TE := fun σ H Q => ta σ H fun x H1 => ∃ c, x = .bl c ∧ if c = true then Q (.bl true) H1 else tb σ H1 Q
def tNotV (ta : TE) : TE := fun σ H Q => ta σ H fun x H1 => ∃ c, x = .bl c ∧ Q (.bl (!c)) H1
theorem pe_one {op} {t : TE} (h : PE X a t) : PE X (.BoolOp op [a] pos) t := fun pins s σ H Q I hw => BoolOp_one (h pins s σ H Q I hw)
theorem pe_and (ha : PE X a ta) (hb : PE X (.BoolOp .And (b :: rest) pos) tb) : PE X (.BoolOp .And (a :: b :: rest) pos) (tAndV ta tb) := by
  intro pins s σ H Q I h
  refine BoolOp_and (thn (ha pins s σ H _ I h) fun v s1 ⟨x, H1, I1, r1, q1⟩ => ?_)
  obtain ⟨c, rfl, q1⟩ := q1
  cases r1
  refine wpAny_truthy_bool ?_
  cases c with
  | true => exact hb pins s1 σ H1 Q I1 q1
  | false => exact ⟨.bl false, H1, I1, rfl, q1⟩
theorem pe_or (ha : PE X a ta) (hb : PE X (.BoolOp .Or (b :: rest) pos) tb) : PE X (.BoolOp .Or (a :: b :: rest) pos) (tOrV ta tb) := by
  intro pins s σ H Q I h
  refine BoolOp_or (thn (ha pins s σ H _ I h) fun v s1 ⟨x, H1, I1, r1, q1⟩ => ?_)
  obtain ⟨c, rfl, q1⟩ := q1
  cases r1
  refine wpAny_truthy_bool ?_
  cases c with
  | false => exact hb pins s1 σ H1 Q I1 q1
  | true => exact ⟨.bl true, H1, I1, rfl, q1⟩
def tIf (t : TT) (ta tb : TE) : TE := fun σ H Q => t σ H fun c H1 => if c = true then ta σ H1 Q else tb σ H1 Q
theorem pe_ifExp {c : Expr} (hc : PT X c tA) (ha : PE X a ta) (hb : PE X b tb) : PE X (.IfExp c a b pos) (tIf tA ta tb) := by
  intro pins s σ H Q I h
  refine wpAny_IfExp (thn (hc pins s σ H _ I h) fun d s1 ⟨H1, I1, q1⟩ => ?_)
  cases d with
  | true => exact ha pins s1 σ H1 Q I1 q1
  | false => exact hb pins s1 σ H1 Q I1 q1
end
end L2

namespace L2
open PySem PySem.Spec PyProof.Rows


def SqL (K : PySem.W.Frag) (H : Hp) (a : Addr) (xs : List V) : Prop :=
  Rd H a (.lst xs) ∨
    ∃ (o : Obj) (its : Array Value) (n : Nat), K.lookup a = some o ∧ o.cls = .type "list" ∧ o.dict = none ∧ o.data = .seq its n ∧ its.size ≤ sizeLine ∧ Vals xs its.toList
def SqT (K : PySem.W.Frag) (H : Hp) (a : Addr) (xs : List V) : Prop :=
  Rd H a (.tup xs) ∨
    ∃ (o : Obj) (its : Array Value) (n : Nat), K.lookup a = some o ∧ o.cls = .type "tuple" ∧ o.data = .seq its n ∧ its.size ≤ sizeLine ∧ Vals xs its.toList
def absV : Value → Option V
  | .none => some .non
  | .bool b => some (.bl b)
  | .int i _ => some (.int i)
  | .str x _ => some (.str x)
  | .bytes b _ => some (.byt b)
  | .float b _ => some (.flt b)
  | .ref a => some (.ref a)
  | .type n => some (.ty n)
  | _ => none
theorem RelV.abs {x : V} {u : Value} (r : RelV x u) : absV u = some x := by
  cases x with
  | non => cases r; rfl
  | bl _ => cases r; rfl
  | int _ => obtain ⟨t, rfl⟩ := r; rfl
  | str _ => obtain ⟨t, rfl⟩ := r; rfl
  | byt _ => obtain ⟨t, rfl⟩ := r; rfl
  | flt _ => obtain ⟨t, rfl⟩ := r; rfl
  | ref _ => cases r; rfl
  | ty _ => cases r; rfl
theorem RelV.inj {x y : V} {u : Value} (r : RelV x u) (q : RelV y u) : x = y := Option.some.inj (r.abs.symm.trans q.abs)
theorem Vals.inj : ∀ {xs ys : List V} {us : List Value}, Vals xs us → Vals ys us → xs = ys
  | _, _, _, .nil, .nil => rfl
  | _, _, _, .cons r t, .cons r' t' => by rw [r.inj r', Vals.inj t t']
section
variable {X : Cx} {pins : List (Addr × Obj)} {σ : St} {H : Hp} {s : Shared} {a : Addr} {xs ys : List V}
theorem SqL.of {K : PySem.W.Frag} (h : H a = some (.lst xs)) : SqL K H a xs := .inl (.inl h)
theorem SqT.of {K : PySem.W.Frag} (h : H a = some (.tup xs)) : SqT K H a xs := .inl (.inl h)
theorem Inv.list (I : Inv X pins σ H s) (h : SqL X.K H a xs) : ∃ its : List Value, Vals xs its ∧ PlainL s.heap a its.toArray ∧ xs.length ≤ sizeLine := by
  rcases h with h | ⟨o, its, n, hk, hc, hd, hs, hz, r⟩
  · obtain ⟨z, its, n, r, e⟩ := h.ok I.hok
    exact ⟨its, r, ⟨_, n, e, rfl, rfl, rfl⟩, z⟩
  · refine ⟨its.toList, r, ⟨o, n, I.kIn a o hk, hc, hd, by simpa using hs⟩, ?_⟩
    have e := r.length
    simp only [Array.length_toList] at e
    omega
theorem Inv.tuple (I : Inv X pins σ H s) (h : SqT X.K H a xs) : ∃ its : List Value, Vals xs its ∧ IsTup s.heap a its.toArray ∧ xs.length ≤ sizeLine := by
  rcases h with h | ⟨o, its, n, hk, hc, hs, hz, r⟩
  · obtain ⟨z, its, r, p⟩ := h.ok I.hok
    exact ⟨its, r, p, z⟩
  · refine ⟨its.toList, r, ⟨o, I.kIn a o hk, hc, n, by simpa using hs⟩, ?_⟩
    have e := r.length
    simp only [Array.length_toList] at e
    omega
theorem Inv.list_inj (I : Inv X pins σ H s) (h : SqL X.K H a xs) (h' : SqL X.K H a ys) : xs = ys := by
  obtain ⟨its, r, ⟨o, n, e, _, _, d⟩, _⟩ := I.list h
  obtain ⟨its', r', ⟨o', n', e', _, _, d'⟩, _⟩ := I.list h'
  rw [e] at e'; cases e'
  rw [d] at d'
  injection d' with d1 _
  have : its = its' := by simpa using congrArg Array.toList d1
  subst this
  exact r.inj r'
end


abbrev Cx.wish (X : Cx) (E : Value → Shared → Prop) : Cx := { X with xe := E }

abbrev Cx.nox (X : Cx) : Cx := X.wish fun _ _ => False
theorem Cx.Ok.wish {X : Cx} (ok : X.Ok) (E : Value → Shared → Prop) : (X.wish E).Ok :=
  ⟨ok.mod, ok.kind, ok.glob, ok.blt, ok.above, ok.inj, ok.has, ok.cab, ok.hd, ok.frames, ok.stk, ok.exf, ok.bs, ok.bsz, ok.noex, ok.exfs, ok.funs, ok.frf⟩
theorem Cx.Ok.unwish {X : Cx} {E : Value → Shared → Prop} (ok : (X.wish E).Ok) : X.Ok :=
  ⟨ok.mod, ok.kind, ok.glob, ok.blt, ok.above, ok.inj, ok.has, ok.cab, ok.hd, ok.frames, ok.stk, ok.exf, ok.bs, ok.bsz, ok.noex, ok.exfs, ok.funs, ok.frf⟩
section
variable {X : Cx} {pins : List (Addr × Obj)} {σ : St} {H : Hp} {s : Shared} {E : Value → Shared → Prop}
theorem Inv.wish (I : Inv X pins σ H s) (E : Value → Shared → Prop) : Inv (X.wish E) pins σ H s := ⟨I.ok.wish E, I.os, I.bare, I.base, I.loc, I.cell, I.free, I.freeC, I.pin, I.hok, I.len⟩
theorem Inv.unwish (I : Inv (X.wish E) pins σ H s) : Inv X pins σ H s := ⟨I.ok.unwish, I.os, I.bare, I.base, I.loc, I.cell, I.free, I.freeC, I.pin, I.hok, I.len⟩
theorem SP.unwish {D : Ends} {f : Flow} {s' : Shared} (h : SP (X.wish E) pins D f s') : SP X pins D f s' := by
  cases f with
  | next => obtain ⟨σ', H', I, q⟩ := h; exact ⟨σ', H', I.unwish, q⟩
  | brk => obtain ⟨σ', H', I, q⟩ := h; exact ⟨σ', H', I.unwish, q⟩
  | cont => obtain ⟨σ', H', I, q⟩ := h; exact ⟨σ', H', I.unwish, q⟩
  | ret u => obtain ⟨v, σ', H', I, r, q⟩ := h; exact ⟨v, σ', H', I.unwish, r, q⟩
theorem PSs.nox {st : List Stmt} {t : TS} (h : PSs X.nox st t) : PSs X st t := fun pins s σ H D I hw =>
  wpAny_mono (h pins s σ H D (I.wish _) hw) (fun _ _ q => q.unwish) fun _ _ z => False.elim z
end


section
variable {X : Cx} {st : Stmt} {rest : List Stmt} {t u : TS} {e : Expr} {te : TE} {pos : Pos}
def tNext : TS := fun D σ H => D.nx σ H
def tSeq (t u : TS) : TS := fun D σ H => t { D with nx := u D } σ H
theorem pss_nil : PSs X [] tNext := fun _ _ σ H _ I h => wpAny_execs_nil ⟨σ, H, I, h⟩
theorem pss_cons (h1 : PS X st t) (h2 : PSs X rest u) : PSs X (st :: rest) (tSeq t u) := by
  intro pins s σ H D I h
  refine wpAny_execs_cons (thn (h1 pins s σ H { D with nx := u D } I h) fun f s1 q => ?_)
  cases f with
  | next =>
    obtain ⟨σ', H', I', q⟩ := q
    exact h2 pins s1 σ' H' D I' q
  | ret v => exact q
  | brk => exact q
  | cont => exact q
theorem pss_one (h1 : PS X st t) : PSs X [st] t := by
  intro pins s σ H D I h
  refine wpAny_execs_cons (thn (h1 pins s σ H D I h) fun f s1 q => ?_)
  cases f with
  | next => exact wpAny_execs_nil q
  | ret v => exact q
  | brk => exact q
  | cont => exact q
def tBreak : TS := fun D σ H => D.bk σ H
def tCont : TS := fun D σ H => D.ct σ H
theorem ps_break : PS X (.Break pos) tBreak := fun _ _ σ H _ I h => wpAny_Break ⟨σ, H, I, h⟩
theorem Inv.quiet {pins : List (Addr × Obj)} {σ : St} {H : Hp} {s : Shared} (I : Inv X pins σ H s) : interactive X.env = false := by simp [interactive, I.ok.kind]

def tDrop (te : TE) : TS := fun D σ H => te σ H fun _ H1 => D.nx σ H1
theorem ps_expr (he : PE X e te) (hs : swapsWith e none pos.line X.env = pure false := by rfl) : PS X (.Expr e pos) (tDrop te) := by
  intro pins s σ H D I h
  exact wpAny_Expr_any (thn (he pins s σ H _ I h) fun v s1 ⟨x, H1, I1, r1, q1⟩ => ⟨σ, H1, I1, q1⟩) I.quiet hs
def tRet (te : TE) : TS := fun D σ H => te σ H D.rt
theorem ps_ret (he : PE X e te) : PS X (.Return (some e) pos) (tRet te) := by
  intro pins s σ H D I h
  exact wpAny_Return_some (thn (he pins s σ H _ I h) fun v s1 ⟨x, H1, I1, r1, q1⟩ => ⟨x, σ, H1, I1, r1, q1⟩)
def tRetN : TS := fun D _ H => D.rt .non H
def tIfS (c : TT) (t u : TS) : TS := fun D σ H => c σ H fun b H1 => if b = true then t D σ H1 else u D σ H1
theorem ps_if {c : Expr} {a b : List Stmt} {tc : TT} (hc : PT X c tc) (ha : PSs X a t) (hb : PSs X b u) : PS X (.If c a b pos) (tIfS tc t u) := by
  intro pins s σ H D I h
  refine wpAny_If (thn (hc pins s σ H _ I h) fun d s1 ⟨H1, I1, q1⟩ => ?_)
  cases d with
  | true => exact ha pins s1 σ H1 D I1 q1
  | false => exact hb pins s1 σ H1 D I1 q1

def tNever : TS := fun _ _ _ => False
end


abbrev TG := V → St → Hp → (St → Hp → Prop) → Prop
abbrev TGs := List V → St → Hp → (St → Hp → Prop) → Prop
def PG (X : Cx) (target : Expr) (t : TG) : Prop :=
  ∀ (pins : List (Addr × Obj)) (s : Shared) (σ : St) (H : Hp) (v : V) (u : Value) (Q : St → Hp → Prop), Inv X pins σ H s → RelV v u → t v σ H Q →
    wpAny (model X.prog X.w) X.A (assign target X.env u) (fun _ s' => ∃ σ' H', Inv X pins σ' H' s' ∧ Q σ' H') X.xe s

def PGs (X : Cx) (ts : List Expr) (t : TGs) : Prop :=
  ∀ (pins : List (Addr × Obj)) (s : Shared) (σ : St) (H : Hp) (vs : List V) (us : List Value) (Q : St → Hp → Prop), Inv X pins σ H s → Vals vs us → t vs σ H Q →
    wpAny (model X.prog X.w) X.A (assignInOrder ((assignEach ts X.env).map (·.2)) us) (fun _ s' => ∃ σ' H', Inv X pins σ' H' s' ∧ Q σ' H') X.xe s

abbrev TSet := V → V → V → Hp → (Hp → Prop) → Prop
def PSet (X : Cx) (t : TSet) : Prop :=
  ∀ (pins : List (Addr × Obj)) (s : Shared) (σ : St) (H : Hp) (o i v : V) (ov iv u : Value) (Q : Hp → Prop), Inv X pins σ H s → RelV o ov → RelV i iv → RelV v u → t o i v H Q →
    wpAny (model X.prog X.w) X.A (setItem ov iv u) (fun _ s' => ∃ H', Inv X pins σ H' s' ∧ Q H') X.xe s

abbrev TIp := V → V → Hp → VK → Prop
def PIp (X : Cx) (op : Operator) (t : TIp) : Prop :=
  ∀ (pins : List (Addr × Obj)) (s : Shared) (σ : St) (H : Hp) (x y : V) (v u : Value) (Q : VK), Inv X pins σ H s → RelV x v → RelV y u → t x y H Q →
    wpAny (model X.prog X.w) X.A (inplaceOp op v u) (EP X pins σ Q) X.xe s
section
variable {X : Cx} {pos : Pos}
def gName (i : Nat) : TG := fun v σ H Q => Q (σ.set i (some v)) H
theorem pg_name {i : Nat} {x : Str} (hN : X.N.Nodup) (hi : X.N[i]? = some x) (hx : Loc X.env.scope x) (hf : X.fn x = true ∨ X.env.scope.names.lookup x = some .local := by first | exact .inl rfl | exact .inr rfl | assumption) : PG X (.Name x pos) (gName i) := by
  intro pins s σ H v u Q I r h
  exact wpAny_assign_Name (store_ok I hN hi hx r (fun s' I' => ⟨_, H, I', h⟩) hf)
def gNil : TGs := fun vs σ H Q => vs = [] ∧ Q σ H
def gCons (t : TG) (u : TGs) : TGs := fun vs σ H Q => ∃ v r, vs = v :: r ∧ t v σ H fun σ' H' => u r σ' H' Q
def gTup (K : PySem.W.Frag) (n : Nat) (t : TGs) : TG := fun v σ H Q => ∃ a xs, v = .ref a ∧ SqT K H a xs ∧ xs.length = n ∧ t xs σ H Q
def gSub (to ti : TE) (t : TSet) : TG := fun v σ H Q => to σ H fun o H1 => ti σ H1 fun i H2 => t o i v H2 fun H3 => Q σ H3
def tAsg (te : TE) (g : TG) : TS := fun D σ H => te σ H fun x H1 => g x σ H1 D.nx
theorem ps_set {i : Nat} {x : Str} {e : Expr} {te : TE} {pos' : Pos} (hN : X.N.Nodup) (hi : X.N[i]? = some x) (hx : Loc X.env.scope x) (he : PE X e te) (hs : swapsWith e (some (.Name x pos')) pos.line X.env = pure false := by rfl) (hf : X.fn x = true ∨ X.env.scope.names.lookup x = some .local := by first | exact .inl rfl | exact .inr rfl | assumption) :
    PS X (.Assign [.Name x pos'] e pos) (tAsg te (gName i)) := by
  intro pins s σ H D I h
  refine wpAny_Assign_Name (thn (he pins s σ H _ I h) fun v s1 ⟨y, H1, I1, r1, q1⟩ => ?_) hs
  exact store_ok I1 hN hi hx r1 (fun s2 I2 => ⟨_, H1, I2, q1⟩) hf

def tPar (i j : Nat) (ta : TA) : TS := fun D σ H => ta σ H fun vs H1 => ∃ v w, vs = [v, w] ∧ D.nx ((σ.set i (some v)).set j (some w)) H1
def tAug (i : Nat) (te : TE) (ti : TIp) : TS := fun D σ H => ∃ x, σ[i]? = some (some x) ∧ te σ H fun y H1 => ti x y H1 fun z H2 => D.nx (σ.set i (some z)) H2
def tAugS (to ti te : TE) (tget : V → V → Hp → VK → Prop) (tip : TIp) (tset : TSet) : TS := fun D σ H => to σ H fun o H1 => ti σ H1 fun i H2 => tget o i H2 fun x H3 => te σ H3 fun y H4 => tip x y H4 fun z H5 => tset o i z H5 fun H6 => D.nx σ H6

def PGet (X : Cx) (t : V → V → Hp → VK → Prop) : Prop :=
  ∀ (pins : List (Addr × Obj)) (s : Shared) (σ : St) (H : Hp) (o i : V) (ov iv : Value) (Q : VK), Inv X pins σ H s → RelV o ov → RelV i iv → t o i H Q →
    wpAny (model X.prog X.w) X.A (getItem ov iv) (EP X pins σ Q) X.xe s
theorem ps_augS {o i e : Expr} {to ti te : TE} {tget : V → V → Hp → VK → Prop} {tip : TIp} {tset : TSet} {op : Operator} {tpos : Pos} (ho : PE X o to) (hi : PE X i ti) (hg : PGet X tget) (he : PE X e te) (hp : PIp X op tip) (hs : PSet X tset)
    (ha : ∀ ov iv new, augStore i ov iv new = (do holding [new, ov, iv] (setItem ov iv new); release [new, ov, iv] []; pure .next) := by intros; rfl) : PS X (.AugAssign (.Subscript o i tpos) op e pos) (tAugS to ti te tget tip tset) := by
  intro pins s σ H D I h
  refine wpAny_AugAssign_SubscriptAny (thn (ho pins s σ H _ I h) fun ov s1 ⟨x1, H1, I1, r1, q1⟩ => ?_) ha
  refine thn (hi pins s1 σ H1 _ I1 q1) fun iv s2 ⟨x2, H2, I2, r2, q2⟩ => ?_
  refine thn (hg pins s2 σ H2 x1 x2 ov iv _ I2 r1 r2 q2) fun old s3 ⟨x3, H3, I3, r3, q3⟩ => ?_
  refine thn (he pins s3 σ H3 _ I3 q3) fun v s4 ⟨x4, H4, I4, r4, q4⟩ => ?_
  refine thn (hp pins s4 σ H4 x3 x4 old v _ I4 r3 r4 q4) fun new s5 ⟨x5, H5, I5, r5, q5⟩ => ?_
  exact thn (hs pins s5 σ H5 x1 x2 x5 ov iv new _ I5 r1 r2 r5 q5) fun _ s6 ⟨H6, I6, q6⟩ => ⟨σ, H6, I6, q6⟩

def ipI (f : Int → Int → Int) : TIp := fun x y H Q => ∃ i j, x = .int i ∧ y = .int j ∧ Q (.int (f i j)) H
theorem ip_add : PIp X .Add (ipI fun i j => i + j) := by
  intro pins s σ H x y v u Q I r1 r2 h
  obtain ⟨i, j, e1, e2, q⟩ := h
  subst e1; subst e2
  obtain ⟨t, rfl⟩ := r1
  obtain ⟨t', rfl⟩ := r2
  exact iadd_int ⟨.int _, H, I.tok _, ⟨_, rfl⟩, q⟩
theorem ip_sub : PIp X .Sub (ipI fun i j => i - j) := by
  intro pins s σ H x y v u Q I r1 r2 h
  obtain ⟨i, j, e1, e2, q⟩ := h
  subst e1; subst e2
  obtain ⟨t, rfl⟩ := r1
  obtain ⟨t', rfl⟩ := r2
  exact isub_int ⟨.int _, H, I.tok _, ⟨_, rfl⟩, q⟩
end


section
variable {X : Cx} {pos : Pos}

def tWhile (c : TT) (tb : TS) : TS := fun D σ H => ∃ W : Nat → St → Hp → Prop, (∃ m, W m σ H) ∧ ∀ m σ H, W m σ H →
  c σ H fun b H1 => if b = true then ∃ N : St → Hp → Prop, (∀ σ' H', N σ' H' → ∃ m', m' < m ∧ W m' σ' H') ∧ tb { D with nx := N, ct := N, bk := D.nx } σ H1 else D.nx σ H1
theorem ps_while {c : Expr} {body : List Stmt} {tc : TT} {tb : TS} (hp : PassesOwn (model X.prog X.w) X.A X.env X.xe) (hc : PT X c tc) (hb : PSs X body tb) : PS X (.While c body [] pos) (tWhile tc tb) := by
  intro pins s σ H D I h
  obtain ⟨W, ⟨m0, w0⟩, turn⟩ := h
  refine wpAny_While (codeAny_whileLoop (fun n s' => ∃ σ' H', Inv X pins σ' H' s' ∧ W n σ' H') ?_ m0 ⟨σ, H, I, w0⟩)
  rintro n s1 ⟨σ1, H1, I1, w1⟩
  refine wpAny_passesOwn hp (thn (hc pins s1 σ1 H1 _ I1 (turn n σ1 H1 w1)) fun b s2 ⟨H2, I2, q2⟩ => ?_)
  cases b with
  | true =>
    obtain ⟨N, hN, q2⟩ := q2
    rw [if_pos rfl]
    refine wpAny_passesOwn hp (thn (hb pins s2 σ1 H2 _ I2 q2) fun f s3 q3 => ?_)
    cases f with
    | next =>
      obtain ⟨σ3, H3, I3, n3⟩ := q3
      obtain ⟨m', hm, w3⟩ := hN σ3 H3 n3
      exact ⟨m', hm, σ3, H3, I3, w3⟩
    | cont =>
      obtain ⟨σ3, H3, I3, n3⟩ := q3
      obtain ⟨m', hm, w3⟩ := hN σ3 H3 n3
      exact ⟨m', hm, σ3, H3, I3, w3⟩
    | brk => exact q3
    | ret v => exact q3
  | false =>
    rw [if_neg Bool.false_ne_true]
    exact wpAny_execs_nil ⟨σ1, H2, I2, q2⟩
end



structure It where
  go : Nat → Hp → Prop
  yld : Nat → Hp → V → Hp → Prop
  stop : Nat → Hp → Prop

def FpOk (X : Cx) (pins : List (Addr × Obj)) (H : Hp) (b : Addr) : Prop :=
  H b = none ∧ b ≠ X.env.locals ∧ b ∉ X.fs ∧ (b ∈ X.ex ∨ X.s_0.heap.objs.size ≤ b) ∧ (∀ x c, X.env.cells.lookup x = some c → c ≠ b) ∧ ∀ p ∈ X.pn ++ pins, p.1 ≠ b
theorem Inv.fpOk {X : Cx} {pins : List (Addr × Obj)} {σ : St} {H H' : Hp} {s : Shared} {b : Addr} (I : Inv X pins σ H s) (hb : s.heap.objs.size ≤ b) (hn : H' b = none) : FpOk X pins H' b := by
  refine ⟨hn, Nat.ne_of_gt (Nat.lt_of_lt_of_le I.lt hb), I.nofs hb, .inr (Nat.le_trans I.sz hb), fun x c e z => ?_, fun p hp z => ?_⟩
  · obtain ⟨v, q⟩ := I.cell x c e
    exact absurd (Nat.lt_of_lt_of_le q.lt (by rw [z]; exact hb)) (Nat.lt_irrefl _)
  · exact absurd (Nat.lt_of_lt_of_le (Heap.lt_size (I.pin p hp).1) (by rw [z]; exact hb)) (Nat.lt_irrefl _)
structure Turn (P : Program) (w : World) (K : PySem.W.Frag) (tg : Expr) (J : It) (fp : List Addr) (it : Addr) (tn : Nat → Heap → Prop) : Prop where
  mem : it ∈ fp
  obj : ∀ i h, tn i h → ∀ b ∈ fp, ∃ o, h.get? b = some o ∧ ∀ v, o.data ≠ .cell v
  keep : ∀ i h h', tn i h → (∀ b ∈ fp, ∀ o, h.get? b = some o → h'.get? b = some o) → tn i h'
  item : ∀ (X : Cx), X.prog = P → X.w = w → X.K = K → X.calm = true → ∀ (i : Nat) (pins : List (Addr × Obj)) (s : Shared) (σ : St) (H : Hp) (E : Value → Shared → Prop), Inv X pins σ H s → (∀ b ∈ fp, FpOk X pins H b) → tn i s.heap → J.go i H →
    wpAny (model P w) X.A (pyNext (.ref it)) (fun r s1 => ∃ u, r = some u ∧
      wpAny (model P w) X.A (letOwnedTupleGo tg (.ref it) u) (fun _ s2 => ∃ x H', Inv X pins σ H' s2 ∧ RelV x u ∧ J.yld i H x H' ∧ tn (i + 1) s2.heap ∧ ∀ b ∈ fp, H' b = none) E s1) E s
  done : ∀ (X : Cx), X.prog = P → X.w = w → X.K = K → X.calm = true → ∀ (i : Nat) (pins : List (Addr × Obj)) (s : Shared) (σ : St) (H : Hp) (E : Value → Shared → Prop), Inv X pins σ H s → (∀ b ∈ fp, FpOk X pins H b) → tn i s.heap → J.stop i H →
    wpAny (model P w) X.A (pyNext (.ref it)) (fun r s1 => r = none ∧ Inv X pins σ H s1) E s
  self : ∀ (A : Around) (i : Nat) (s : Shared) (Q : Value → Shared → Prop) (E : Value → Shared → Prop), tn i s.heap → Q (.ref it) s → wpAny (model P w) A (pyIter (.ref it)) Q E s
abbrev TI := St → Hp → (It → Hp → Prop) → Prop

def PIE (X : Cx) (pins : List (Addr × Obj)) (σ : St) (tg : Expr) (R : It → Hp → Prop) (itv : Value) (s2 : Shared) : Prop :=
  ∃ (it : Addr) (fp : List Addr) (tn : Nat → Heap → Prop) (J : It) (H' : Hp), itv = .ref it ∧ Inv X pins σ H' s2 ∧ Turn X.prog X.w X.K tg J fp it tn ∧ tn 0 s2.heap ∧ (∀ b ∈ fp, FpOk X pins H' b) ∧ R J H'
def PI (X : Cx) (tg iter : Expr) (wi : TI) : Prop :=
  ∀ (pins : List (Addr × Obj)) (s : Shared) (σ : St) (H : Hp) (R : It → Hp → Prop), Inv X pins σ H s → wi σ H R →
    wpAny (model X.prog X.w) X.A (eval iter X.env) (fun v s1 => wpAny (model X.prog X.w) X.A (pyIter v) (PIE X pins σ tg R) X.xe s1) X.xe s


theorem go_of {M : Model} {A : Around} {E : Value → Shared → Prop} {s : Shared} {tg : Expr} {it : Addr} {u : Value} {o : Obj} {n : String} {vs : Array Value} {Q : Unit → Shared → Prop} (ho : s.heap.get? it = some o) (hc : o.cls = .type n) (hd : o.data = .fields vs)
    (hn : ["enumerate", "zip", "dict_itemiterator", "dict_reverseitemiterator", "odict_iterator", "itertools.zip_longest", "itertools.pairwise"].contains n = false) (hQ : Q () s) : wpAny M A (letOwnedTupleGo tg (.ref it) u) Q E s := by
  unfold letOwnedTupleGo
  cases tg <;> first
    | exact wpAny_pure hQ
    | (cases u <;> first
        | exact wpAny_pure hQ
        | (refine wpAny_bind (wpAny_load ho ?_)
           rw [hc, hd]
           show wpAny M A (if (["enumerate", "zip", "dict_itemiterator", "dict_reverseitemiterator", "odict_iterator", "itertools.zip_longest", "itertools.pairwise"].contains n && vs[0]? == some (rawInt _)) = true then _ else _) Q E s
           rw [if_neg (by intro h; rw [hn, Bool.false_and] at h; cases h)]
           exact wpAny_pure hQ))


def Itl (K : PySem.W.Frag) (a : Addr) : It :=
  ⟨fun i H => ∃ xs x, SqL K H a xs ∧ xs[i]? = some x, fun i H x H' => H' = H ∧ ∀ xs, SqL K H a xs → xs[i]? = some x, fun i H => ∃ xs, SqL K H a xs ∧ xs.length ≤ i⟩
def Itt (K : PySem.W.Frag) (a : Addr) : It :=
  ⟨fun i H => ∃ xs x, SqT K H a xs ∧ xs[i]? = some x, fun i H x H' => H' = H ∧ ∀ xs, SqT K H a xs → xs[i]? = some x, fun i H => ∃ xs, SqT K H a xs ∧ xs.length ≤ i⟩

def Itr (lo : Int) (n : Nat) : It := ⟨fun i _ => i < n, fun i H x H' => H' = H ∧ x = .int (lo + i), fun i _ => n ≤ i⟩
theorem turn_list {P : Program} {w : World} {K : PySem.W.Frag} {tg : Expr} (a it : Addr) : Turn P w K tg (Itl K a) [it] it (fun i h => h.IsListIter it a i) where
  mem := by simp
  obj := fun i h st b hb => by
    have e : b = it := by simpa using hb
    subst e
    obtain ⟨o, e, c, d⟩ := st
    exact ⟨o, e, fun v z => by rw [d] at z; cases z⟩
  keep := fun i h h' st k => st.at fun o e => k it (by simp) o e
  item := by
    intro X hP hw hK hc i pins s σ H E I hf st hg
    subst hP hw hK
    obtain ⟨xs, x, hq, hx⟩ := hg
    obtain ⟨its, rv, p, hz⟩ := I.list hq
    obtain ⟨u, hu, ru⟩ := rv.get hx
    obtain ⟨f0, f1, f2, f3, f4, f5⟩ := hf it (by simp)
    refine wpAny_pyNext_list_item st p.isList (x := u) (by simpa using hu) fun h' st' sb => ?_
    have I1 : Inv X pins σ H { s with heap := h' } := I.turned (t' := s.toks) (fun b o hb e => (sb.2 b hb).trans e) f0 f1 f3 f4 f5
    obtain ⟨o, e, c, d⟩ := id st'
    exact ⟨u, rfl, go_of (s := { s with heap := h' }) e c d (by decide) ⟨x, H, I1, ru, ⟨rfl, fun ys hy => by rw [I.list_inj hy hq]; exact hx⟩, st', fun b hb => (hf b hb).1⟩⟩
  done := by
    intro X hP hw hK hc i pins s σ H E I hf st hg
    subst hP hw hK
    obtain ⟨xs, hq, hx⟩ := hg
    obtain ⟨its, rv, p, hz⟩ := I.list hq
    obtain ⟨f0, f1, f2, f3, f4, f5⟩ := hf it (by simp)
    have hl := rv.length
    exact wpAny_pyNext_list_end (I.ok.hd hc) st p.isList (by simp; omega) fun h' eb => ⟨rfl, I.turned (t' := s.toks) (fun b o hb e => eb b o hb e) f0 f1 f3 f4 f5⟩
  self := fun _ _ _ _ _ st h => wpAny_pyIter_listiter st h
theorem turn_range {P : Program} {w : World} {K : PySem.W.Frag} {tg : Expr} (it : Addr) (lo : Int) (n : Nat) : Turn P w K tg (Itr lo n) [it] it (fun i h => IsRangeIter h it (lo + (i : Nat) * 1) ((n : Int) - (i : Nat)) 1) where
  mem := by simp
  obj := fun i h st b hb => by
    have e : b = it := by simpa using hb
    subst e
    exact ⟨_, st, fun v z => by
      have z' : Data.fields _ = Data.cell v := z
      cases z'⟩
  keep := fun i h h' st k => k it (by simp) _ st
  item := by
    intro X hP hw hK hc i pins s σ H E I hf st hg
    subst hP hw hK
    obtain ⟨f0, f1, f2, f3, f4, f5⟩ := hf it (by simp)
    have W := Walks.range (prog := X.prog) (w := X.w) (I.ok.hd hc) it lo 1 n
    refine W.item i s _ _ hg st fun v h' tk hv st' kk => ?_
    obtain ⟨t, rfl⟩ := hv
    have I1 : Inv X pins σ H { s with heap := h', toks := tk } := I.turned (fun b o hb e => kk b o (by simpa using hb) e) f0 f1 f3 f4 f5
    refine ⟨_, rfl, go_of (s := { s with heap := h', toks := tk }) (n := "range_iterator") st' rfl rfl (by decide) ⟨.int (lo + i), H, I1, ⟨t, ?_⟩, ⟨rfl, rfl⟩, st', fun b hb => (hf b hb).1⟩⟩
    rw [Int.mul_one]
  done := by
    intro X hP hw hK hc i pins s σ H E I hf st hg
    subst hP hw hK
    obtain ⟨f0, f1, f2, f3, f4, f5⟩ := hf it (by simp)
    exact wpAny_pyNext_range_end (I.ok.hd hc) st (by have : n ≤ i := hg; omega) fun h' eb => ⟨rfl, I.turned (t' := s.toks) (fun b o hb e => eb b o hb e) f0 f1 f3 f4 f5⟩
  self := fun _ _ _ _ _ st h => wpAny_pyIter_rangeiter st h
end L2

namespace L2
open PySem PySem.Spec PyProof.Rows
section
variable {X : Cx} {tg : Expr}
def iList (K : PySem.W.Frag) (tl : TE) : TI := fun σ H R => tl σ H fun x H1 => ∃ a, x = .ref a ∧ (∃ xs, SqL K H1 a xs) ∧ R (Itl K a) H1
def iTup (K : PySem.W.Frag) (tl : TE) : TI := fun σ H R => tl σ H fun x H1 => ∃ a, x = .ref a ∧ (∃ xs, SqT K H1 a xs) ∧ R (Itt K a) H1
theorem pi_list {l : Expr} {tl : TE} (hl : PE X l tl) : PI X tg l (iList X.K tl) := by
  intro pins s σ H R I h
  refine thn (hl pins s σ H _ I h) fun v s1 ⟨x, H1, I1, r1, q1⟩ => ?_
  obtain ⟨a, e, ⟨xs, hq⟩, q⟩ := q1
  subst e
  cases r1
  obtain ⟨its, rv, p, hz⟩ := I1.list hq
  refine wpAny_pyIter_list p.isList ?_
  refine ⟨s1.heap.objs.size, [s1.heap.objs.size], _, _, H1, rfl, I1.kept (t' := s1.toks) fun b o e => Heap.get?_push_of_some _ e, turn_list a _, ⟨_, Heap.get?_push_size _ rfl, rfl, rfl⟩, fun b hb => ?_, q⟩
  have e : b = s1.heap.objs.size := by simpa using hb
  subst e
  exact I1.fpOk (Nat.le_refl _) (I1.hok.fresh (Nat.le_refl _))
theorem range_it {pins : List (Addr × Obj)} {σ : St} {H : Hp} {s : Shared} {R : It → Hp → Prop} {E : Value → Shared → Prop} {lo hi : Int} {t u v : Tok} {tk : Nat} (I : Inv X pins σ H s) (h1 : -(2 ^ 62) ≤ lo) (h2 : lo < 2 ^ 62) (h3 : -(2 ^ 62) ≤ hi) (h4 : hi < 2 ^ 62)
    (q : R (Itr lo (hi - lo).toNat) H) : wpAny (model X.prog X.w) X.A (pyIter (.ref s.heap.objs.size)) (PIE X pins σ tg R) E { s with heap := s.heap.push { cls := .type "range", data := .fields #[.int lo t, .int hi u, .int 1 v] }, toks := tk } := by
  refine wpAny_pyIter_range (IsRange.new ..) (small_one h1 h2 h3 h4) ?_
  have I1 : Inv X pins σ H { s with heap := s.heap.push { cls := .type "range", data := .fields #[.int lo t, .int hi u, .int 1 v] }, toks := tk } := I.kept fun b o e => Heap.get?_push_of_some _ e
  refine ⟨(s.heap.push { cls := .type "range", data := .fields #[.int lo t, .int hi u, .int 1 v] }).objs.size, [(s.heap.push { cls := .type "range", data := .fields #[.int lo t, .int hi u, .int 1 v] }).objs.size], _, _, H, rfl,
    I1.kept (t' := tk) fun b o e => Heap.get?_push_of_some _ e, turn_range _ lo (hi - lo).toNat, ?_, fun b hb => ?_, q⟩
  · have e1 : lo + ((0 : Nat) : Int) * 1 = lo := by simp
    have e2 : (((hi - lo).toNat : Nat) : Int) - ((0 : Nat) : Int) = Builtin.Range.rangeSize lo hi 1 := by rw [rangeSize_one]; split <;> omega
    show IsRangeIter _ _ (lo + ((0 : Nat) : Int) * 1) ((((hi - lo).toNat : Nat) : Int) - ((0 : Nat) : Int)) 1
    rw [e1, e2]
    exact Heap.get?_push_size _ rfl
  · have e : b = (s.heap.push { cls := .type "range", data := .fields #[.int lo t, .int hi u, .int 1 v] }).objs.size := by simpa using hb
    subst e
    exact I1.fpOk (Nat.le_refl _) (I1.hok.fresh (Nat.le_refl _))
def iRng1 (ta : TA) : TI := fun σ H R => ta σ H fun vs H1 => ∃ j : Int, vs = [.int j] ∧ -(2 ^ 62) ≤ j ∧ j < 2 ^ 62 ∧ R (Itr 0 j.toNat) H1
def iRng2 (ta : TA) : TI := fun σ H R => ta σ H fun vs H1 => ∃ i j : Int, vs = [.int i, .int j] ∧ (-(2 ^ 62) ≤ i ∧ i < 2 ^ 62 ∧ -(2 ^ 62) ≤ j ∧ j < 2 ^ 62) ∧ R (Itr i (j - i).toNat) H1
theorem pi_range1 {a : Expr} {ta : TA} {p pos : Pos} (hg : Gl X "range") (hm : X.mg "range" = none) (ha : PA X [a] ta) (hs : starEach [a] X.env = [(false, eval a X.env)] := by rfl) : PI X tg (.Call (.Name "range" p) [a] [] pos) (iRng1 ta) := by
  intro pins s σ H R I h
  refine Call_ (ld_blt I hg hm boot_range (PyProof.Rows.callWith_type1 (thn (ha pos pins s σ H _ I h) fun us s1 ⟨vs, H1, I1, r1, q1⟩ => ?_) hs rfl))
  obtain ⟨j, e, q1, q2, q⟩ := q1
  subst e
  cases r1 with
  | cons r rr =>
    cases rr
    obtain ⟨t, rfl⟩ := r
    exact call_range_1 (range_it I1 (by omega) (by omega) q1 q2 (by simpa using q))
def tFor (wi : TI) (g : TG) (tb : TS) : TS := fun D σ H => wi σ H fun J H1 => ∃ W : Nat → Nat → St → Hp → Prop, (∃ m, W 0 m σ H1) ∧ ∀ i m σ H, W i m σ H →
  (J.stop i H ∧ D.nx σ H) ∨ (J.go i H ∧ ∃ N : St → Hp → Prop, (∀ σ' H', N σ' H' → ∃ m', m' < m ∧ W (i + 1) m' σ' H') ∧ ∀ x H', J.yld i H x H' → g x σ H' fun σ2 H2 => tb { D with nx := N, ct := N, bk := D.nx } σ2 H2)

def pinsAt (fp : List Addr) (h : Heap) : List (Addr × Obj) := fp.filterMap fun b => (h.get? b).map fun o => (b, o)
theorem mem_pinsAt {fp : List Addr} {h : Heap} {b : Addr} {o : Obj} (hb : b ∈ fp) (e : h.get? b = some o) : (b, o) ∈ pinsAt fp h := List.mem_filterMap.mpr ⟨b, hb, by rw [e]; rfl⟩
theorem of_pinsAt {fp : List Addr} {h : Heap} {p : Addr × Obj} (hp : p ∈ pinsAt fp h) : p.1 ∈ fp ∧ h.get? p.1 = some p.2 := by
  obtain ⟨b, hb, e⟩ := List.mem_filterMap.mp hp
  cases q : h.get? b with
  | none => rw [q] at e; cases e
  | some o =>
    rw [q] at e
    have e' : (b, o) = p := Option.some.inj e
    subst e'
    exact ⟨hb, q⟩
theorem Inv.pinned {pins : List (Addr × Obj)} {σ : St} {H : Hp} {s : Shared} {fp : List Addr} (I : Inv X pins σ H s) (hf : ∀ b ∈ fp, FpOk X pins H b) (ho : ∀ b ∈ fp, ∃ o, s.heap.get? b = some o ∧ ∀ v, o.data ≠ .cell v) : Inv X (pins ++ pinsAt fp s.heap) σ H s :=
  I.pins_of fun p hp => (List.mem_append.mp hp).elim (fun z => I.pin p (List.mem_append_right _ z)) fun z => by
    obtain ⟨hb, e⟩ := of_pinsAt z
    obtain ⟨f0, f1, f2, _⟩ := hf p.1 hb
    obtain ⟨o, e', d⟩ := ho p.1 hb
    rw [e] at e'; cases e'
    exact ⟨e, f0, f1, f2, d⟩
theorem Inv.unpinned {pins pl : List (Addr × Obj)} {σ : St} {H : Hp} {s : Shared} (I : Inv X (pins ++ pl) σ H s) : Inv X pins σ H s := I.pins_of fun p hp => I.pin p (List.mem_append_right _ (List.mem_append_left _ hp))
theorem ps_for {iter : Expr} {body : List Stmt} {wi : TI} {g : TG} {tb : TS} {pos : Pos} (hp : PassesOwn (model X.prog X.w) X.A X.env X.xe) (hc : X.calm = true) (hi : PI X tg iter wi) (hg : PG X tg g) (hb : PSs X body tb)
    (hs : ∀ x, foldedSetIterable iter X.env x = pure x := by intro _; rfl) : PS X (.For tg iter body [] pos) (tFor wi g tb) := by
  intro pins s σ H D I h
  refine wpAny_For (thn (hi pins s σ H _ I h) fun v s1 h1 => thn h1 fun itv s2 h2 => ?_) hs
  obtain ⟨it, fp, tn, J, H2, e, I2, T, st2, f2, W, ⟨m0, w0⟩, turn⟩ := h2
  subst e
  -- what stays true of the iterator's objects through the loop
  have stat : ∀ {H' : Hp}, (∀ b ∈ fp, H' b = none) → ∀ b ∈ fp, FpOk X pins H' b := fun hn b hb => ⟨hn b hb, (f2 b hb).2⟩
  refine codeAny_forLoop_any (fun n s' => ∃ i σ' H', Inv X pins σ' H' s' ∧ tn i s'.heap ∧ (∀ b ∈ fp, H' b = none) ∧ W i n σ' H') ?_ m0 ⟨0, σ, H2, I2, st2, fun b hb => (f2 b hb).1, w0⟩
  rintro n s3 ⟨i, σ3, H3, I3, st3, fr3, w3⟩
  rcases turn i n σ3 H3 w3 with ⟨stop, qn⟩ | ⟨go, N, hN, step⟩
  · refine wpAny_passesOwn hp (thn (T.done X rfl rfl rfl hc i pins s3 σ3 H3 X.xe I3 (stat fr3) st3 stop) fun r s4 ⟨hr, I4⟩ => ?_)
    subst hr
    exact wpAny_execs_nil ⟨σ3, H3, I4, qn⟩
  · refine wpAny_passesOwn hp (thn (T.item X rfl rfl rfl hc i pins s3 σ3 H3 X.xe I3 (stat fr3) st3 go) fun r s4 ⟨u, hr, h4⟩ => ?_)
    subst hr
    refine wpAny_passesOwn hp (thn h4 fun _ s5 ⟨x, H5, I5, r5, y5, st5, fr5⟩ => ?_)
    have I5' := I5.pinned (stat fr5) (T.obj _ _ st5)
    refine wpAny_passesOwn hp (thn (hg _ s5 σ3 H5 x u _ I5' r5 (step x H5 y5)) fun _ s6 ⟨σ6, H6, I6, q6⟩ => ?_)
    refine wpAny_passesOwn hp (thn (hb _ s6 σ6 H6 _ I6 q6) fun f s7 q7 => ?_)
    have again : ∀ {σ7 : St} {H7 : Hp}, Inv X (pins ++ pinsAt fp s5.heap) σ7 H7 s7 → N σ7 H7 → ∃ m, m < n ∧ ∃ i σ' H', Inv X pins σ' H' s7 ∧ tn i s7.heap ∧ (∀ b ∈ fp, H' b = none) ∧ W i m σ' H' := fun {σ7 H7} I7 n7 => by
      obtain ⟨m', hm, w7⟩ := hN σ7 H7 n7
      refine ⟨m', hm, i + 1, σ7, H7, I7.unpinned, T.keep _ _ _ st5 fun b hb o e => (I7.pin (b, o) (List.mem_append_right _ (List.mem_append_right _ (mem_pinsAt hb e)))).1, fun b hb => ?_, w7⟩
      obtain ⟨o, e, d⟩ := T.obj _ _ st5 b hb
      exact (I7.pin (b, o) (List.mem_append_right _ (List.mem_append_right _ (mem_pinsAt hb e)))).2.1
    cases f with
    | next => obtain ⟨σ7, H7, I7, n7⟩ := q7; exact again I7 n7
    | cont => obtain ⟨σ7, H7, I7, n7⟩ := q7; exact again I7 n7
    | brk => obtain ⟨σ7, H7, I7, q7⟩ := q7; exact ⟨σ7, H7, I7.unpinned, q7⟩
    | ret v => obtain ⟨x7, σ7, H7, I7, r7, q7⟩ := q7; exact ⟨x7, σ7, H7, I7.unpinned, r7, q7⟩
end



theorem for_range {lo : Int} {n : Nat} {g : TG} {tb : TS} {D : Ends} {σ : St} {H : Hp} (Pv : Nat → St → Hp → Prop) (h0 : Pv 0 σ H)
    (hs : ∀ i σ H, i < n → Pv i σ H → g (.int (lo + i)) σ H fun σ2 H2 => tb { D with nx := Pv (i + 1), ct := Pv (i + 1), bk := D.nx } σ2 H2) (hd : ∀ σ H, Pv n σ H → D.nx σ H) :
    ∃ W : Nat → Nat → St → Hp → Prop, (∃ m, W 0 m σ H) ∧ ∀ i m σ H, W i m σ H →
      ((Itr lo n).stop i H ∧ D.nx σ H) ∨ ((Itr lo n).go i H ∧ ∃ N : St → Hp → Prop, (∀ σ' H', N σ' H' → ∃ m', m' < m ∧ W (i + 1) m' σ' H') ∧ ∀ x H', (Itr lo n).yld i H x H' → g x σ H' fun σ2 H2 => tb { D with nx := N, ct := N, bk := D.nx } σ2 H2) := by
  refine ⟨fun i m σ H => m = n - i ∧ i ≤ n ∧ Pv i σ H, ⟨n, by simp, Nat.zero_le _, h0⟩, ?_⟩
  rintro i m σ H ⟨rfl, hi, p⟩
  by_cases hlt : i < n
  · refine .inr ⟨hlt, Pv (i + 1), fun σ' H' p' => ⟨n - (i + 1), by omega, rfl, hlt, p'⟩, fun x H' y => ?_⟩
    obtain ⟨e, y⟩ := y
    subst e y
    exact hs i σ _ hlt p
  · have e : i = n := by omega
    subst e
    exact .inl ⟨Nat.le_refl _, hd σ H p⟩

theorem while_by {c : TT} {tb : TS} {D : Ends} {σ : St} {H : Hp} (Pv : St → Hp → Prop) (μ : St → Hp → Nat) (h0 : Pv σ H)
    (hs : ∀ σ H, Pv σ H → c σ H fun b H1 => if b = true then tb { D with nx := fun σ' H' => Pv σ' H' ∧ μ σ' H' < μ σ H, ct := fun σ' H' => Pv σ' H' ∧ μ σ' H' < μ σ H, bk := D.nx } σ H1 else D.nx σ H1)
    (mono : ∀ σ H Q Q', (∀ b H1, Q b H1 → Q' b H1) → c σ H Q → c σ H Q') : tWhile c tb D σ H := by
  refine ⟨fun m σ H => m = μ σ H ∧ Pv σ H, ⟨_, rfl, h0⟩, ?_⟩
  rintro m σ H ⟨rfl, p⟩
  refine mono σ H _ _ (fun b H1 q => ?_) (hs σ H p)
  cases b with
  | true => exact ⟨_, fun σ' H' ⟨p', l⟩ => ⟨_, l, rfl, p'⟩, q⟩
  | false => exact q
end L2

namespace L2
open PySem PySem.Spec PyProof.Rows

abbrev R2 := V → V → Hp → VK → Prop

def OpR (X : Cx) (f : Value → Value → Sem Value) (r : R2) : Prop :=
  ∀ (pins : List (Addr × Obj)) (s : Shared) (σ : St) (H : Hp) (x y : V) (v u : Value) (Q : VK), Inv X pins σ H s → RelV x v → RelV y u → r x y H Q →
    wpAny (model X.prog X.w) X.A (f v u) (EP X pins σ Q) X.xe s

def UnR (X : Cx) (f : Value → Sem Value) (r : V → Hp → VK → Prop) : Prop :=
  ∀ (pins : List (Addr × Obj)) (s : Shared) (σ : St) (H : Hp) (x : V) (v : Value) (Q : VK), Inv X pins σ H s → RelV x v → r x H Q →
    wpAny (model X.prog X.w) X.A (f v) (EP X pins σ Q) X.xe s

def CallR (X : Cx) (f : Value) (r : List V → Hp → VK → Prop) : Prop :=
  ∀ (pins : List (Addr × Obj)) (s : Shared) (σ : St) (H : Hp) (xs : List V) (us : List Value) (Q : VK), Inv X pins σ H s → Vals xs us → r xs H Q →
    wpAny (model X.prog X.w) X.A (call f us) (EP X pins σ Q) X.xe s

def TruR (X : Cx) (r : V → Hp → (Bool → Hp → Prop) → Prop) : Prop :=
  ∀ (pins : List (Addr × Obj)) (s : Shared) (σ : St) (H : Hp) (x : V) (v : Value) (Q : Bool → Hp → Prop), Inv X pins σ H s → RelV x v → r x H Q →
    wpAny (model X.prog X.w) X.A (truthy v) (TP X pins σ Q) X.xe s

def tOp (r : R2) (ta tb : TE) : TE := fun σ H Q => ta σ H fun x H1 => tb σ H1 fun y H2 => r x y H2 Q
def tUn (r : V → Hp → VK → Prop) (ta : TE) : TE := fun σ H Q => ta σ H fun x H1 => r x H1 Q

def rI (C : Int → Int → Prop) (g : Int → Int → V) : R2 := fun x y H Q => ∃ i j, x = .int i ∧ y = .int j ∧ C i j ∧ Q (g i j) H
def rI0 (g : Int → Int → V) : R2 := fun x y H Q => ∃ i j, x = .int i ∧ y = .int j ∧ Q (g i j) H
def rU (g : Int → V) : V → Hp → VK → Prop := fun x H Q => ∃ i, x = .int i ∧ Q (g i) H

section
variable {X : Cx} {a b c : Expr} {ta tb tc : TE} {pos : Pos}

theorem binT (ha : PE X a ta) (hb : PE X b tb) {pins : List (Addr × Obj)} {s : Shared} {σ : St} {H : Hp} {R : V → V → Hp → Prop} (I : Inv X pins σ H s)
    (h : ta σ H fun x H1 => tb σ H1 fun y H2 => R x y H2) {Q : Value → Shared → Prop} {f : Value → Value → Sem Value}
    (hf : ∀ v u s2 x y H2, Inv X pins σ H2 s2 → RelV x v → RelV y u → R x y H2 → wpAny (model X.prog X.w) X.A (f v u) Q X.xe s2) :
    wpAny (model X.prog X.w) X.A (eval a X.env) (fun v s₁ => wpAny (model X.prog X.w) X.A (eval b X.env) (fun u s₂ => wpAny (model X.prog X.w) X.A (f v u) Q X.xe s₂) X.xe s₁) X.xe s := by
  refine thn (ha pins s σ H _ I h) fun v s1 ⟨x, H1, I1, r1, q1⟩ => ?_
  refine thn (hb pins s1 σ H1 _ I1 q1) fun u s2 ⟨y, H2, I2, r2, q2⟩ => ?_
  exact hf v u s2 x y H2 I2 r1 r2 q2

theorem pe_op {op : Operator} {r : R2} (ho : OpR X (binaryOp op) r) (ha : PE X a ta) (hb : PE X b tb) : PE X (.BinOp a op b pos) (tOp r ta tb) := by
  intro pins s σ H Q I h
  exact wpAny_BinOp (binT ha hb I h fun v u s2 x y H2 I2 rx ry q => ho pins s2 σ H2 x y v u Q I2 rx ry q)
theorem opI {f : Value → Value → Sem Value} {C : Int → Int → Prop} {g : Int → Int → Int}
    (rule : ∀ (i j : Int) (t u : Tok) (s : Shared) (Q : Value → Shared → Prop) (E : Value → Shared → Prop), C i j → Q (.int (g i j) s.toks) { s with toks := s.toks + 1 } → wpAny (model X.prog X.w) X.A (f (.int i t) (.int j u)) Q E s) :
    OpR X f (rI C fun i j => .int (g i j)) := by
  intro pins s σ H x y v u Q I rx ry h
  obtain ⟨i, j, rfl, rfl, hc, q⟩ := h
  obtain ⟨t, rfl⟩ := rx
  obtain ⟨t', rfl⟩ := ry
  exact rule i j t t' s _ _ hc ⟨.int (g i j), H, I.tok _, ⟨_, rfl⟩, q⟩
theorem opI0 {f : Value → Value → Sem Value} {g : Int → Int → Int}
    (rule : ∀ (i j : Int) (t u : Tok) (s : Shared) (Q : Value → Shared → Prop) (E : Value → Shared → Prop), Q (.int (g i j) s.toks) { s with toks := s.toks + 1 } → wpAny (model X.prog X.w) X.A (f (.int i t) (.int j u)) Q E s) :
    OpR X f (rI0 fun i j => .int (g i j)) := by
  intro pins s σ H x y v u Q I rx ry h
  obtain ⟨i, j, rfl, rfl, q⟩ := h
  obtain ⟨t, rfl⟩ := rx
  obtain ⟨t', rfl⟩ := ry
  exact rule i j t t' s _ _ ⟨.int (g i j), H, I.tok _, ⟨_, rfl⟩, q⟩
def CDiv (i j : Int) : Prop := 0 < j ∧ j < 1073741824
def CDivN (i j : Int) : Prop := j ≠ 0 ∧ j.natAbs < 1073741824
def CPow (i j : Int) : Prop := 0 ≤ j ∧ j ≤ 1000000 ∧ i.natAbs < 2 ^ 64
def CMul (i j : Int) : Prop := (-(2 ^ 64) < i ∧ i < 2 ^ 64) ∨ (-(2 ^ 64) < j ∧ j < 2 ^ 64)
theorem CMul.ok {i j : Int} (h : CMul i j) : IntMulOk i j := by
  rcases h with ⟨h1, h2⟩ | ⟨h1, h2⟩
  · exact .of_left (intBits_le_64 h1 h2)
  · exact .of_right (intBits_le_64 h1 h2)
theorem op_add : OpR X (binaryOp .Add) (rI0 fun i j => .int (i + j)) := opI0 fun _ _ _ _ _ _ _ q => add_int q
theorem op_sub : OpR X (binaryOp .Sub) (rI0 fun i j => .int (i - j)) := opI0 fun _ _ _ _ _ _ _ q => sub_int q
theorem op_mul : OpR X (binaryOp .Mult) (rI CMul fun i j => .int (i * j)) := opI fun _ _ _ _ _ _ _ hc q => mul_int q hc.ok

theorem op_mod : OpR X (binaryOp .Mod) (rI (fun _ j => 0 < j) fun i j => .int (i % j)) := opI fun i j _ _ _ _ _ hc q => by
  have h1 : (0 : Int) < j := hc
  exact mod_int' (by omega) (by rw [Int.fmod_eq_emod_of_nonneg i (by omega)]; exact q)
end



def scal : V → V → Bool
  | .non, .non => true | .non, .int _ => true | .int _, .non => true | .non, .bl _ => true | .bl _, .non => true | .non, .str _ => true | .str _, .non => true
  | .int _, .int _ => true | .bl _, .bl _ => true | .str _, .str _ => true | .byt _, .byt _ => true
  | .int _, .str _ => true | .str _, .int _ => true | .bl _, .str _ => true | .str _, .bl _ => true
  | _, _ => false
def rEq : R2 := fun x y H Q => scal x y = true ∧ Q (.bl (decide (x = y))) H
def rNe : R2 := fun x y H Q => scal x y = true ∧ Q (.bl (!decide (x = y))) H

section
variable {X : Cx} {a b c : Expr} {ta tb tc : TE} {pos : Pos}
def isObj : HO → Bool
  | .lst _ => true
  | .ins _ _ _ => true
  | _ => false
def tTest (t : TE) : TT := fun σ H Q => t σ H fun x H' => ∃ k, x = .bl k ∧ Q k H'
def tChain (r r' : R2) (ta tb tc : TE) : TE := fun σ H Q => ta σ H fun x H1 => tb σ H1 fun y H2 => r x y H2 fun z H3 => ∃ k, z = .bl k ∧
  (if k = true then tc σ H3 fun w' H4 => r' y w' H4 Q else Q (.bl false) H3)
def TruV (K : PySem.W.Frag) (x : V) (H : Hp) (k : Bool) : Prop :=
  match x with
  | .non => k = false
  | .bl b => k = b
  | .int i => k = (i != 0)
  | .str y => y.length ≤ sizeLine ∧ k = ((y.length : Int) != 0)
  | .byt y => y.size ≤ sizeLine ∧ k = ((y.size : Int) != 0)
  | .ref p => (∃ xs, SqL K H p xs ∧ k = !xs.isEmpty) ∨ (∃ xs, SqT K H p xs ∧ k = !xs.isEmpty) ∨ ∃ kvs, H p = some (.dK kvs) ∧ k = !kvs.isEmpty
  | _ => False
theorem line63 : (sizeLine : Nat) < 2 ^ 63 := by rw [sizeLine_eq]; decide
def PlainIxT (b : Expr) : Prop := ∀ o i, subscripted b false o i = operate [o, i] (getItem o i)

theorem vals1 {x : V} {us : List Value} (r : Vals [x] us) : ∃ u, us = [u] ∧ RelV x u := by
  cases r with
  | cons r1 r2 => cases r2; exact ⟨_, rfl, r1⟩
def LenV (K : PySem.W.Frag) (x : V) (H : Hp) (n : Nat) : Prop :=
  match x with
  | .str y => y.length ≤ sizeLine ∧ n = y.length
  | .byt y => y.size ≤ sizeLine ∧ n = y.size
  | .ref p => (∃ xs, SqL K H p xs ∧ n = xs.length) ∨ ∃ xs, SqT K H p xs ∧ n = xs.length
  | _ => False
end
end L2

namespace L2
open PySem PySem.Spec PyProof.Rows


structure ObjM (h : Heap) (x dx C : Addr) (mA : Str → Option Value) : Prop where
  obj : h.get? x = some (PySem.W.instObj C dx)
  ns : h.Ns1 dx mA
  ne : dx ≠ x

theorem lookIn_ns {h : Heap} {dx : Addr} {mA : Str → Option Value} (n : h.Ns1 dx mA) : ∃ od, h.get? dx = some od ∧ ∀ name, PySem.W.lookIn name od = some (mA name) := by
  obtain ⟨o, es, ep, ho, hd, hk, _, hm⟩ := n
  refine ⟨o, ho, fun name => ?_⟩
  have e := hm name
  unfold nsFind findBy at e
  rw [← Array.find?_toList] at e
  unfold PySem.W.lookIn
  rw [hd]
  dsimp only
  split
  · rename_i y q
    rw [q] at e
    exact congrArg some e
  · rename_i q
    rw [q] at e
    have a : es.toList.any (·.refKey) = false := by
      rw [List.any_eq_false]
      intro y hy
      obtain ⟨z, t, hkey⟩ := hk y (Array.mem_toList_iff.mp hy)
      simp [DictEntry.refKey, hkey]
    have a' : ¬ es.toList.any (·.refKey) = true := by rw [a]; exact Bool.false_ne_true
    rw [if_neg a']
    exact congrArg some e

theorem ObjM.look {h : Heap} {x dx C : Addr} {mA : Str → Option Value} (I : ObjM h x dx C mA) : ∃ od, PySem.W.InstAt h x (PySem.W.instObj C dx) C (some od) ∧ ∀ name, PySem.W.lookIn name od = some (mA name) :=
  let ⟨od, ho, hl⟩ := lookIn_ns I.ns
  ⟨od, ⟨I.obj, rfl, rfl, ho⟩, hl⟩

section
variable {prog : Program} {w : World} {A : Around} {E : Value → Shared → Prop} {s : Shared} {K : PySem.W.Frag} {x dx C f : Addr} {mA : Str → Option Value} {name : Str} {v : Value}

theorem get_map {expr : Bool} {Q : Value → Shared → Prop} (X : K.In s.heap) (I : ObjM s.heap x dx C mA) (hg : PySem.W.plainGet K C name = true) (hh : PySem.W.hasDictIn K C = true)
    (ha : PySem.W.findIn K (.ref C) name = some none) (hv : mA name = some v) (hv' : PySem.W.handedIn v = true) (h : Q v { s with toks := s.toks + 1 }) :
    wpAny (model prog w) A (getAttr (.ref x) name expr) Q E s := by
  obtain ⟨od, J, hl⟩ := I.look
  exact PySem.W.get_value X J (PySem.W.plainGet_of hg).1 (PySem.W.findObj_own hh ha rfl (by rw [hl, hv])) hv' h

theorem get_meth {pl : Sem Bool} {Q : Value × List Value → Shared → Prop} (X : K.In s.heap) (I : ObjM s.heap x dx C mA) (hg : PySem.W.plainGet K C name = true)
    (hf : PySem.W.findIn K (.ref C) name = some (some (.ref f))) (ht : PySem.W.isFn K (.ref f) = true) (hv : mA name = none) (h : Q (.ref f, [.ref x]) s) :
    wpAny (model prog w) A (getMethod (.ref x) name pl) Q E s := by
  obtain ⟨od, J, hl⟩ := I.look
  exact PySem.W.method_fn X J (PySem.W.plainGet_of hg).1 (PySem.W.plainGet_of hg).2 hf (beq_iff_eq.mp ht) (by show (PySem.W.lookIn name od).map (·.isSome) = some false; rw [hl, hv]; rfl) h

theorem set_map {ns : List Str} {Q : Unit → Shared → Prop} (X : K.In s.heap) (I : ObjM s.heap x dx C mA)
    (hs : PySem.W.findIn K (.ref C) "__setattr__" = some (some (.builtin "object.__setattr__"))) (hp : PySem.W.plainOver K C = true) (ht : PySem.W.takerIn K C name = some none) (hh : PySem.W.hasDictIn K C = true)
    (hw : PySem.Within mA ns) (hsz : ns.length ≤ sizeLine)
    (h : ∀ h', ObjM h' x dx C (fun y => if y = name then some v else mA y) → Heap.SameBut dx s.heap h' → Q () { s with heap := h', toks := s.toks + 2 }) :
    wpAny (model prog w) A (setAttr (.ref x) name v) Q E s := by
  obtain ⟨od, J, hl⟩ := I.look
  refine PySem.W.set_plain X J hs (PySem.W.osa_open (s := { s with toks := s.toks + 1 }) (r := none) X J hp ht fun b => ?_)
  obtain ⟨cd, hc, hd'⟩ := PySem.W.any_some hh
  have hx : s.heap.get? x = some ⟨.ref C, some dx, .plain, #[]⟩ := I.obj
  refine wpAny_bind (wpAny_pure (wpAny_bind (wpAny_bind (wpAny_loadPart hx (wpAny_bind (PySem.W.Looks.here (s := { s with toks := s.toks + 1 }) (PySem.W.looks_clsIn X hc) ?_))))))
  rw [hd']
  refine wpAny_pure (a := some dx) (wpAny_bind (wpAny_pure (wpAny_bind ?_)))
  refine wpAny_nsSet1 (s := { s with toks := s.toks + 1 }) I.ns fun h' hn2 hs2 => ?_
  obtain ⟨oD, esD, epD, hoD, hdD, hcD⟩ := hn2.count (PySem.Within.cons name v hw)
  refine wpAny_bind (wpAny_lookBehind hoD (by rw [hdD]; exact pastItsLine_dict (Nat.le_trans hcD (by rw [List.length_cons]; omega))) ?_)
  exact wpAny_pure (h _ ⟨(hs2.2 _ (Ne.symm I.ne)).trans I.obj, hn2, I.ne⟩ hs2)


theorem make_map {R : Result → Shared → Prop} {vs : List Value} {kw : List (Str × Value)} (X : K.In s.heap) (hm : PySem.W.makesIn K C = true)
    (hi : PySem.W.findIn K (.ref C) "__init__" = some (some (.ref f))) (hf : PySem.W.typeIn K (.ref f) = some (.type "function"))
    (h : codeAny (model prog w) (A.under (.builtin "type.__call__" ⟨.ref C :: vs, kw⟩)) (.call (.ref f) ⟨.ref (s.heap.objs.size + 1) :: vs, kw⟩) (PySem.W.InitBack (s.heap.objs.size + 1) R)
      { s with heap := (s.heap.push PySem.W.emptyDict).push (PySem.W.instObj C s.heap.objs.size) }) :
    codeAny (model prog w) A (.call (.ref C) ⟨vs, kw⟩) R s := by
  obtain ⟨hh, g, d, t, os⟩ := s
  exact PySem.W.make_core (PySem.W.makes_of X hm) (PySem.W.looks_findIn X hi) (fun self => PySem.W.bind_fn X self hf) (.inl rfl) h

end


def putF (f : Str) (v : V) : List (Str × V) → List (Str × V)
  | [] => [(f, v)]
  | (g, x) :: r => if g = f then (g, v) :: r else (g, x) :: putF f v r
theorem lookup_putF (f g : Str) (v : V) : ∀ fs : List (Str × V), (putF f v fs).lookup g = if g = f then some v else fs.lookup g
  | [] => by
    show List.lookup g [(f, v)] = _
    by_cases h : g = f
    · have hb : (g == f) = true := beq_iff_eq.mpr h
      simp only [List.lookup, hb, if_pos h]
    · have hb : (g == f) = false := beq_eq_false_iff_ne.mpr h
      simp only [List.lookup, hb, if_neg h]
  | (k, x) :: r => by
    have ih := lookup_putF f g v r
    rw [show putF f v ((k, x) :: r) = (if k = f then (k, v) :: r else (k, x) :: putF f v r) from rfl]
    by_cases hk : k = f
    · rw [if_pos hk]
      by_cases h : g = k
      · have hb : (g == k) = true := beq_iff_eq.mpr h
        simp only [List.lookup, hb, if_pos (h.trans hk)]
      · have hb : (g == k) = false := beq_eq_false_iff_ne.mpr h
        simp only [List.lookup, hb, if_neg (fun e : g = f => h (e.trans hk.symm))]
    · rw [if_neg hk]
      by_cases h : g = k
      · have hb : (g == k) = true := beq_iff_eq.mpr h
        simp only [List.lookup, hb, if_neg (fun e : g = f => hk (h.symm.trans e))]
      · have hb : (g == k) = false := beq_eq_false_iff_ne.mpr h
        simp only [List.lookup, hb]
        exact ih
theorem keys_putF (f : Str) (v : V) : ∀ fs : List (Str × V), f ∈ (putF f v fs).map (·.1) ∧ ∀ g, g ∈ fs.map (·.1) → g ∈ (putF f v fs).map (·.1)
  | [] => ⟨by simp [putF], fun g h => by simp at h⟩
  | (k, x) :: r => by
    obtain ⟨i1, i2⟩ := keys_putF f v r
    rw [show putF f v ((k, x) :: r) = (if k = f then (k, v) :: r else (k, x) :: putF f v r) from rfl]
    by_cases hk : k = f
    · rw [if_pos hk]
      subst hk
      exact ⟨by simp, fun g h => by simpa using h⟩
    · rw [if_neg hk]
      refine ⟨?_, fun g h => ?_⟩
      · rw [List.map_cons]
        exact List.mem_cons_of_mem _ i1
      · rw [List.map_cons] at h ⊢
        rcases List.mem_cons.mp h with e | e
        · exact List.mem_cons.mpr (.inl e)
        · exact List.mem_cons_of_mem _ (i2 g e)
theorem length_putF (f : Str) (v : V) : ∀ fs : List (Str × V), (putF f v fs).length ≤ fs.length + 1
  | [] => by simp [putF]
  | (k, x) :: r => by
    have ih := length_putF f v r
    rw [show putF f v ((k, x) :: r) = (if k = f then (k, v) :: r else (k, x) :: putF f v r) from rfl]
    by_cases hk : k = f
    · rw [if_pos hk, List.length_cons, List.length_cons]; omega
    · rw [if_neg hk, List.length_cons, List.length_cons]; omega

theorem RelO.some_of {v : V} {o : Option Value} (r : RelO (some v) o) : ∃ u, o = some u ∧ RelV v u := by
  cases o with
  | none => exact (show False from r).elim
  | some u => exact ⟨u, rfl, r⟩
theorem RelO.none_of {o : Option Value} (r : RelO none o) : o = none := by
  cases o with
  | none => rfl
  | some u => exact (show False from r).elim
theorem handed_of {v : V} {u : Value} (r : RelV v u) : PySem.W.handedIn u = true := by
  cases v with
  | non => cases (show u = Value.none from r); rfl
  | bl b => cases (show u = Value.bool b from r); rfl
  | int i => obtain ⟨t, e⟩ := (show ∃ t, u = Value.int i t from r); cases e; rfl
  | str x => obtain ⟨t, e⟩ := (show ∃ t, u = Value.str x t from r); cases e; rfl
  | byt b => obtain ⟨t, e⟩ := (show ∃ t, u = Value.bytes b t from r); cases e; rfl
  | flt b => obtain ⟨t, e⟩ := (show ∃ t, u = Value.float b t from r); cases e; rfl
  | ref a => cases (show u = Value.ref a from r); rfl
  | ty n => cases (show u = Value.type n from r); rfl

section
variable {P : Program} {w : World} {H H' : Hp} {h h' : Heap} {a C dx : Addr} {fs fs' : List (Str × V)}
theorem ins_get (hok : HOk P w H h) (e : H a = some (.ins C dx fs)) : ∃ mA, ObjM h a dx C mA ∧ (∀ f, RelO (fs.lookup f) (mA f)) ∧ PySem.Within mA (fs.map (·.1)) ∧ fs.length ≤ 1000 ∧ H dx = some (.own a) := by
  obtain ⟨d, z, ne, ob, mA, n, r, q⟩ := (show ObjOk P w H h a (.ins C dx fs) from hok a _ e)
  exact ⟨mA, ⟨ob, n, ne⟩, r, q, z, d⟩
end


structure Cls (K : PySem.W.Frag) (C : Addr) : Prop where
  pg : PySem.W.plainGet K C Str.empty = true
  hd : PySem.W.hasDictIn K C = true
  po : PySem.W.plainOver K C = true
  sa : PySem.W.findIn K (.ref C) "__setattr__" = some (some (.builtin "object.__setattr__"))
theorem Cls.get {K : PySem.W.Frag} {C : Addr} (c : Cls K C) (f : Str) : PySem.W.plainGet K C f = true := c.pg

def NoAttr (K : PySem.W.Frag) (C : Addr) (f : Str) : Prop := PySem.W.findIn K (.ref C) f = some none
theorem NoAttr.taker {K : PySem.W.Frag} {C : Addr} {f : Str} (n : NoAttr K C f) : PySem.W.takerIn K C f = some none := by
  unfold PySem.W.takerIn
  rw [show PySem.W.findIn K (.ref C) f = some none from n]
  rfl

structure Con (K : PySem.W.Frag) (C : Addr) (f : Str) (v : V) (u : Value) : Prop where
  at_ : PySem.W.findIn K (.ref C) f = some (some u)
  rel : RelV v u
  get : PySem.W.specialIn K u "__get__" = some none
  cp : PySem.W.copiedNames.contains f = false

structure Meth (K : PySem.W.Frag) (C : Addr) (m : Str) (f : Addr) : Prop where
  at_ : PySem.W.findIn K (.ref C) m = some (some (.ref f))
  fn : PySem.W.isFn K (.ref f) = true
  kp : PySem.W.keepIn K (.ref f) = true

section
variable {X : Cx} {pins : List (Addr × Obj)} {σ : St} {H : Hp} {s : Shared} {a C dx : Addr} {fs : List (Str × V)} {f : Str} {v : V} {A : Around} {E : Value → Shared → Prop}

theorem getattr_ok {b : Bool} {Q : Value → Shared → Prop} (I : Inv X pins σ H s) (e : H a = some (.ins C dx fs)) (c : Cls X.K C) (n : NoAttr X.K C f) (l : fs.lookup f = some v)
    (h : ∀ u s', Inv X pins σ H s' → RelV v u → Q u s') : wpAny (model X.prog X.w) A (getAttr (.ref a) f b) Q E s := by
  obtain ⟨mA, O, r, _, _, _⟩ := ins_get I.hok e
  obtain ⟨u, hu, ru⟩ := RelO.some_of (v := v) (o := mA f) (by rw [← l]; exact r f)
  exact get_map I.kIn O (c.get f) c.hd n hu (handed_of ru) (h u _ (I.tok _) ru)

theorem getmeth_ok {m : Str} {g : Addr} {pl : Sem Bool} {Q : Value × List Value → Shared → Prop} (I : Inv X pins σ H s) (e : H a = some (.ins C dx fs)) (c : Cls X.K C) (k : Meth X.K C m g) (l : fs.lookup m = none)
    (h : Q (.ref g, [.ref a]) s) : wpAny (model X.prog X.w) A (getMethod (.ref a) m pl) Q E s := by
  obtain ⟨mA, O, r, _, _, _⟩ := ins_get I.hok e
  have hn : mA m = none := RelO.none_of (by rw [← l]; exact r m)
  exact get_meth I.kIn O (c.get m) k.at_ k.fn hn h

theorem setattr_ok {y : V} {u : Value} {Q : Unit → Shared → Prop} (I : Inv X pins σ H s) (e : H a = some (.ins C dx fs)) (c : Cls X.K C) (n : NoAttr X.K C f) (hl : fs.length < 1000) (ry : RelV y u)
    (h : ∀ s', Inv X pins σ (upd H a (.ins C dx (putF f y fs))) s' → Q () s') : wpAny (model X.prog X.w) A (setAttr (.ref a) f u) Q E s := by
  obtain ⟨mA, O, r, wi, _, ho⟩ := ins_get I.hok e
  have hz : (fs.map (·.1)).length ≤ sizeLine := by rw [List.length_map, sizeLine_eq]; omega
  refine set_map I.kIn O c.sa c.po n.taker c.hd wi hz fun h' O' sb => h _ ?_
  have hd : ∃ o, h'.get? dx = some o := let ⟨o, _, _, e', _⟩ := O'.ns; ⟨o, e'⟩
  refine I.write (x := a) (e := dx) (by rw [e]; exact True.intro) (.inr ho) (fun b q hb z => (sb.2 b hb).trans z) hd ?_
  refine ⟨by rw [upd_ne O.ne]; exact ho, ?_, O.ne, O'.obj, _, O'.ns, fun g => ?_, fun g hg => ?_⟩
  · have := length_putF f y fs; omega
  · show RelO ((putF f y fs).lookup g) (if g = f then some u else mA g)
    rw [lookup_putF]
    by_cases q : g = f
    · rw [if_pos q, if_pos q]; exact ry
    · rw [if_neg q, if_neg q]; exact r g
  · by_cases q : g = f
    · rw [q]; exact (keys_putF f y fs).1
    · refine (keys_putF f y fs).2 g (wi g fun z => hg ?_)
      show (if g = f then some u else mA g) = none
      rw [if_neg q]; exact z


theorem Inv.made (I : Inv X pins σ H s) : Inv X pins σ (upd (upd H s.heap.objs.size (.own (s.heap.objs.size + 1))) (s.heap.objs.size + 1) (.ins C s.heap.objs.size []))
    { s with heap := (s.heap.push PySem.W.emptyDict).push (PySem.W.instObj C s.heap.objs.size) } := by
  have e1 : (s.heap.push PySem.W.emptyDict).get? s.heap.objs.size = some PySem.W.emptyDict := Heap.get?_push_size s.heap rfl
  have e2 : ((s.heap.push PySem.W.emptyDict).push (PySem.W.instObj C s.heap.objs.size)).get? (s.heap.objs.size + 1) = some (PySem.W.instObj C s.heap.objs.size) := by
    have := Heap.get?_push_size (s.heap.push PySem.W.emptyDict) (o := PySem.W.instObj C s.heap.objs.size) rfl
    rwa [Heap.size_push] at this
  have e3 : (s.heap.push PySem.W.emptyDict).Ns s.heap.objs.size (fun _ => none) := ⟨PySem.W.emptyDict, #[], _, e1, rfl, (fun e he => absurd he (by simp)), fun _ => rfl⟩
  have I1 := I.laid (a := s.heap.objs.size) (o := .own (s.heap.objs.size + 1)) (h' := s.heap.push PySem.W.emptyDict) (t' := s.toks) (fun b u q => Heap.get?_push_of_some _ q) (Nat.le_refl _) ⟨_, e1⟩
  refine I1.laid (a := s.heap.objs.size + 1) (o := .ins C s.heap.objs.size []) (t' := s.toks) (fun b u q => Heap.get?_push_of_some _ q) (Nat.le_of_eq (Heap.size_push _ _)) ?_
  have ne : s.heap.objs.size ≠ s.heap.objs.size + 1 := Nat.ne_of_lt (Nat.lt_succ_self _)
  refine ⟨by rw [upd_ne ne, upd_same], Nat.zero_le _, ne, e2, fun _ => none, (Heap.Ns1.of_empty e3).at fun o q => Heap.get?_push_of_some _ q, fun _ => True.intro, fun y hy => absurd rfl hy⟩


theorem attr_of {prog : Program} {w : World} {env : Env} {e : Expr} {f : Str} {pos : Pos} {s : Shared} {Q : Value → Shared → Prop} (hb : attributeBase e f env (eval e env) = eval e env)
    (h : wpAny (model prog w) A (eval e env) (fun o s₁ => wpAny (model prog w) A (getAttr o f true) Q E s₁) E s) : wpAny (model prog w) A (eval (.Attribute e f pos) env) Q E s :=
  Attribute_any_ h (by rw [arm_eval_Attribute, hb])
end



def tFld (K : PySem.W.Frag) (ta : TE) (f : Str) : TE := fun σ H Q => ta σ H fun x H1 => ∃ a C dx fs v, x = .ref a ∧ H1 a = some (.ins C dx fs) ∧ Cls K C ∧ NoAttr K C f ∧ fs.lookup f = some v ∧ Q v H1

def tCon (K : PySem.W.Frag) (ta : TE) (f : Str) : TE := fun σ H Q => ta σ H fun x H1 => ∃ a C dx fs v u, x = .ref a ∧ H1 a = some (.ins C dx fs) ∧ Cls K C ∧ Con K C f v u ∧ fs.lookup f = none ∧ Q v H1

def sFld (K : PySem.W.Frag) (ta tv : TE) (f : Str) : TS := fun D σ H => tv σ H fun y H1 => ta σ H1 fun x H2 => ∃ a C dx fs, x = .ref a ∧ H2 a = some (.ins C dx fs) ∧ Cls K C ∧ NoAttr K C f ∧ fs.length < 1000 ∧
  D.nx σ (upd H2 a (.ins C dx (putF f y fs)))

def InOp (X : Cx) (op : Operator) (rd : V → V → Hp → VK → Prop) : Prop :=
  ∀ (pins : List (Addr × Obj)) (s : Shared) (σ : St) (H : Hp) (x y : V) (u v : Value) (Q : VK), Inv X pins σ H s → RelV x u → RelV y v → rd x y H Q → wpAny (model X.prog X.w) X.A (inplaceOp op u v) (EP X pins σ Q) X.xe s

def sFldAug (K : PySem.W.Frag) (ta tv : TE) (rd : V → V → Hp → VK → Prop) (f : Str) : TS := fun D σ H => ta σ H fun x H1 => ∃ a C dx fs v, x = .ref a ∧ H1 a = some (.ins C dx fs) ∧ Cls K C ∧ NoAttr K C f ∧ fs.lookup f = some v ∧
  tv σ H1 fun y H2 => rd v y H2 fun z H3 => ∃ dx' fs', H3 a = some (.ins C dx' fs') ∧ fs'.length < 1000 ∧ D.nx σ (upd H3 a (.ins C dx' (putF f z fs')))

section
variable {X : Cx} {o e value : Expr} {f : Str} {pos pos' tpos : Pos} {ta tv : TE}
theorem pe_fld (he : PE X e ta) (hb : attributeBase e f X.env (eval e X.env) = eval e X.env) : PE X (.Attribute e f pos) (tFld X.K ta f) := by
  intro pins s σ H Q I h
  refine attr_of hb (thn (he pins s σ H _ I h) fun u s1 ⟨x, H1, I1, rx, a, C, dx, fs, v, ex, ea, c, n, l, q⟩ => ?_)
  subst ex
  obtain rfl : u = Value.ref a := rx
  exact getattr_ok I1 ea c n l fun u' s2 I2 ru => ⟨v, H1, I2, ru, q⟩
theorem ps_fld (ha : PE X o ta) (hv : PE X value tv) (hs : swapsWith value (some (.Attribute o f pos')) pos.line X.env = pure false) : PS X (.Assign [.Attribute o f pos'] value pos) (sFld X.K ta tv f) := by
  intro pins s σ H D I h
  refine plainObj_wpAny_Assign_Attribute (thn (hv pins s σ H _ I h) fun u s1 ⟨y, H1, I1, ry, q⟩ => thn (ha pins s1 σ H1 _ I1 q) fun ov s2 ⟨x, H2, I2, rx, a, C, dx, fs, ex, ea, c, n, l, q2⟩ => ?_) hs
  subst ex
  obtain rfl : ov = Value.ref a := rx
  exact setattr_ok I2 ea c n l ry fun s3 I3 => ⟨σ, _, I3, q2⟩
def rAdd : V → V → Hp → VK → Prop := fun x y H Q => ∃ i j, x = .int i ∧ y = .int j ∧ Q (.int (i + j)) H
def rSub : V → V → Hp → VK → Prop := fun x y H Q => ∃ i j, x = .int i ∧ y = .int j ∧ Q (.int (i - j)) H
end


section
variable {X : Cx} {pins : List (Addr × Obj)} {σ : St} {H : Hp} {s : Shared} {A : Around} {E : Value → Shared → Prop} {Q : Value → Shared → Prop} {c : Value} {b : Bool}

inductive TyOf (K : PySem.W.Frag) (H : Hp) : V → Value → Prop where
  | non : TyOf K H .non (.type "NoneType")
  | bl (x : Bool) : TyOf K H (.bl x) (.type "bool")
  | int (i : Int) : TyOf K H (.int i) (.type "int")
  | str (x : Str) : TyOf K H (.str x) (.type "str")
  | flt (x : UInt64) : TyOf K H (.flt x) (.type "float")
  | lst {a : Addr} {xs : List V} (e : H a = some (.lst xs)) : TyOf K H (.ref a) (.type "list")
  | frz {a : Addr} {o : Obj} {xs : List V} (e : H a = some (.frz o (.lst xs))) : TyOf K H (.ref a) (.type "list")
  | tup {a : Addr} {xs : List V} (e : H a = some (.tup xs)) : TyOf K H (.ref a) (.type "tuple")
  | dK {a : Addr} {kvs : List (Key × V)} (e : H a = some (.dK kvs)) : TyOf K H (.ref a) (.type "dict")
  | dT {a : Addr} {kvs : List (List Key × V)} (e : H a = some (.dT kvs)) : TyOf K H (.ref a) (.type "dict")
  | ins {a C dx : Addr} {fs : List (Str × V)} (e : H a = some (.ins C dx fs)) (cl : Cls K C) (ha : PySem.W.findIn K (.ref C) "__class__" = some (some (.builtin "object.__class__")))
      (hn : PySem.W.specialIn K (.builtin "object.__class__") "__get__" = some (some (.builtin "getset_descriptor.__get__"))) (htk : PySem.W.takesIn K (.builtin "object.__class__") = some true)
      (hm : PySem.W.mroIn K C (.type "object") = some true) : TyOf K H (.ref a) (.ref C)

end
end L2

namespace L2
open PySem PySem.Spec PyProof.Rows


structure Room (k : Nat) (A : Around) : Prop where
  hd : A.handled = none
  dp : A.depth + 3 * k + 5 < recursionLimit
  un : A.units + 16 * k + 200 < cLine
theorem Room.mono {j k : Nat} {A : Around} (r : Room k A) (h : j ≤ k) : Room j A := ⟨r.hd, by have := r.dp; omega, by have := r.un; omega⟩
theorem Room.deeper {k : Nat} {A : Around} (r : Room (k + 1) A) (env : Env) : Room k (A.deeper env) :=
  ⟨r.hd, by have := r.dp; show A.depth + 1 + 3 * k + 5 < _; omega, by have := r.un; show A.units + 3 + 16 * k + 200 < _; omega⟩
theorem make_depth {A : Around} {C : Addr} {us : List Value} {kw : List (Str × Value)} : (A.under (.builtin "type.__call__" ⟨.ref C :: us, kw⟩)).depth = A.depth + 1 := by
  first | rfl | simp [Around.under, Code.weight, Code.isCreation, Code.isGuard, Code.isCaller, Code.frames, Code.isFrame, guardIds]
theorem make_units {A : Around} {C : Addr} {us : List Value} {kw : List (Str × Value)} : (A.under (.builtin "type.__call__" ⟨.ref C :: us, kw⟩)).units = A.units + 1 := by
  first | rfl | simp [Around.under, Code.cUnits, Code.frames, Code.isFrame]
theorem Room.make {k : Nat} {A : Around} (r : Room (k + 1) A) (C : Addr) (us : List Value) (kw : List (Str × Value)) : Room k (A.under (.builtin "type.__call__" ⟨.ref C :: us, kw⟩)) :=
  ⟨r.hd, by have := r.dp; rw [make_depth]; omega, by have := r.un; rw [make_units]; omega⟩
theorem Room.depth {k : Nat} {A : Around} (r : Room k A) : A.depth < recursionLimit := by have := r.dp; omega
def tNil : TA := fun _ H Q => Q [] H
def tCons (ta : TE) (tr : TA) : TA := fun σ H Q => ta σ H fun x H1 => tr σ H1 fun xs H2 => Q (x :: xs) H2
section
variable {X : Cx} {e : Expr} {es : List Expr} {te : TE} {t : TA} {pos : Pos}
theorem pa_nil : PA X [] tNil := fun _ _ _ _ H Q I h => Calls.spliced_nil ⟨[], H, I, .nil, h⟩
theorem pa_cons (ha : PE X e te) (hr : PA X es t) (hs : starEach (e :: es) X.env = (false, eval e X.env) :: starEach es X.env := by rfl) : PA X (e :: es) (tCons te t) := by
  intro pos pins s σ H Q I h
  rw [hs]
  show wpAny _ _ (spliced ((false, eval e X.env) :: backTo pos (starEach es X.env))) _ _ s
  refine Calls.spliced_cons (thn (ha pins s σ H _ I h) fun u s1 ⟨x, H1, I1, r1, q1⟩ => ?_)
  exact thn (hr pos pins s1 σ H1 _ I1 q1) fun us s2 ⟨xs, H2, I2, r2, q2⟩ => ⟨x :: xs, H2, I2, .cons r1 r2, q2⟩


def tTup (t : TA) : TE := fun σ H Q => t σ H fun xs H1 => xs.length ≤ sizeLine ∧ ∀ p, H1 p = none → Q (.ref p) (upd H1 p (.tup xs))
def tLst (t : TA) : TE := fun σ H Q => t σ H fun xs H1 => xs.length ≤ sizeLine ∧ ∀ p, H1 p = none → Q (.ref p) (upd H1 p (.lst xs))
theorem pe_tup {x1} (h : PA X es t) : PE X (.Tuple es x1 pos) (tTup t) := by
  intro pins s σ H Q I hq
  refine wpAny_Tuple_spliced (thn (h pos pins s σ H _ I hq) fun us s1 ⟨xs, H1, I1, r, z, q⟩ => ⟨by rw [← r.length]; exact z, ?_⟩)
  have hf : H1 s1.heap.objs.size = none := I1.hok.fresh (Nat.le_refl _)
  refine ⟨.ref s1.heap.objs.size, upd H1 s1.heap.objs.size (.tup xs), I1.laid (t' := s1.toks) (fun b u e => Heap.get?_push_of_some _ e) (Nat.le_refl _) ?_, rfl, q _ hf⟩
  exact ⟨z, us, r, ⟨_, Heap.get?_push_size _ rfl, rfl, _, rfl⟩⟩
theorem pe_lst (h : PA X es t) : PE X (.List es pos) (tLst t) := by
  intro pins s σ H Q I hq
  refine wpAny_List_spliced (thn (h pos pins s σ H _ I hq) fun us s1 ⟨xs, H1, I1, r, z, q⟩ => ⟨by rw [← r.length]; exact z, ?_⟩)
  have hf : H1 s1.heap.objs.size = none := I1.hok.fresh (Nat.le_refl _)
  refine ⟨.ref s1.heap.objs.size, upd H1 s1.heap.objs.size (.lst xs), I1.laid (t' := s1.toks) (fun b u e => Heap.get?_push_of_some _ e) (Nat.le_refl _) ?_, rfl, q _ hf⟩
  exact ⟨z, us, 0, r, Heap.get?_push_size _ rfl⟩
end



abbrev Sp := List V → Hp → VK → XK → Prop

abbrev CXT := List Env → Hp → Shared → XK → Value → Shared → Prop


structure Env0 (P : Program) (w : World) (K : PySem.W.Frag) (mg : Str → Option Value) (base : Heap) (A : Around) (outer : List Env) (s : Shared) (H : Hp) : Prop where
  frames : A.frames = some outer
  mod : Mod K mg base
  bs : ∀ b o, base.get? b = some o → s.heap.get? b = some o ∧ H b = none
  bsz : base.objs.size ≤ s.heap.objs.size
  funs : s.heap.FunFrames base outer
  frf : ∀ b ∈ frs outer, H b = none
  hok : HOk P w H s.heap
  bare : AllBare s.gens

def CE (outer : List Env) (P : Program) (w : World) (H : Hp) (s : Shared) (Q : VK) (u : Value) (s' : Shared) : Prop :=
  ∃ v H', s'.os = s.os ∧ AllBare s'.gens ∧ Un (frs outer) [] H H' s.heap s'.heap ∧ HOk P w H' s'.heap ∧ RelV v u ∧ Q v H'
def CR (CX : CXT) (outer : List Env) (P : Program) (w : World) (H : Hp) (s : Shared) (Q : VK) (E : XK) (r : Result) (s' : Shared) : Prop :=
  match r with
  | .ok (.ret u) => CE outer P w H s Q u s'
  | .ok _ => False
  | .error e => CX outer H s E e s'
structure FnOk (P : Program) (w : World) (K : PySem.W.Frag) (mg : Str → Option Value) (base : Heap) (CX : CXT) (k : Nat) (f : Addr) (fd : FuncData) (ps : List Str) (sp : Sp) : Prop where
  len : ∀ vs H Q E, sp vs H Q E → vs.length = ps.length
  run : ∀ (A : Around) (outer : List Env) (s : Shared) (H : Hp) (args : Args) (us : List Value) (vs : List V) (Q : VK) (E : XK), Room k A → Env0 P w K mg base A outer s H → BindsTo s fd args (ps.zip us) → Vals vs us → sp vs H Q E →
    codeAny (model P w) A (.call (.ref f) args) (CR CX outer P w H s Q E) s
theorem Env0.make {P : Program} {w : World} {K : PySem.W.Frag} {mg : Str → Option Value} {base : Heap} {A : Around} {outer : List Env} {s : Shared} {H : Hp} (e : Env0 P w K mg base A outer s H) (C : Addr) (us : List Value) (kw : List (Str × Value)) :
    Env0 P w K mg base (A.under (.builtin "type.__call__" ⟨.ref C :: us, kw⟩)) outer s H := ⟨by first | exact e.frames | (simpa [Around.under, Code.envs, Code.isFrame, pushEnvs] using e.frames), e.mod, e.bs, e.bsz, e.funs, e.frf, e.hok, e.bare⟩
section
variable {X : Cx} {pins : List (Addr × Obj)} {σ : St} {H : Hp} {s s' : Shared}

theorem Inv.env0 (I : Inv X pins σ H s) : Env0 X.prog X.w X.K X.mg X.base X.A X.stack s H :=
  ⟨I.ok.frames, I.ok.mod, I.bs, Nat.le_trans I.ok.bsz I.sz, I.stack, I.stkFree, I.hok, I.bare⟩

theorem Inv.after {Q : VK} {u : Value} (I : Inv X pins σ H s) (h : CE X.stack X.prog X.w H s Q u s') : EP X pins σ Q u s' := by
  obtain ⟨v, H', os, bare, un, hok, r, q⟩ := h
  obtain ⟨hh, g, d, t, os'⟩ := s'
  obtain rfl : os' = s.os := os
  exact ⟨v, H', I.call (h' := hh) (g' := g) (d' := d) (t' := t) (ch := []) un hok bare (fun b z => absurd z (by simp)), r, q⟩
end



def tCall (sp : Sp) (dvs : List V) (E : XK) (t : TA) : TE := fun σ H Q => t σ H fun vs H1 => sp (vs ++ dvs) H1 Q E

def tMeth (C : Addr) (m : Str) (sp : Sp) (dvs : List V) (E : XK) (ta : TE) (t : TA) : TE := fun σ H Q => ta σ H fun x H1 => ∃ a dx fs, x = .ref a ∧ H1 a = some (.ins C dx fs) ∧ fs.lookup m = none ∧
  t σ H1 fun vs H2 => sp (x :: (vs ++ dvs)) H2 Q E

def tMake (C : Addr) (sp : Sp) (dvs : List V) (E : XK) (t : TA) : TE := fun σ H Q => t σ H fun vs H1 => ∀ x dx, H1 x = none → H1 dx = none → dx ≠ x →
  sp (.ref x :: (vs ++ dvs)) (upd (upd H1 dx (.own x)) x (.ins C dx [])) (fun v H2 => v = .non ∧ Q (.ref x) H2) E


def Binds (K : PySem.W.Frag) (fd : FuncData) (ps : List Str) (ds : List Value) : Prop :=
  ∀ (s : Shared) (us : List Value), K.In s.heap → (us ++ ds).length = ps.length → BindsTo s fd ⟨us, []⟩ (ps.zip (us ++ ds))

theorem Binds.all {K : PySem.W.Frag} {fd : FuncData} {ps : List Str} (h : ∀ us : List Value, us.length = ps.length → bindArgs fd ⟨us, []⟩ = pure (ps.zip us)) : Binds K fd ps [] := fun s us _ hl => by
  rw [List.append_nil] at hl ⊢
  exact .of_eq (h us hl)


def Passes (CX : CXT) (X : Cx) (E : XK) : Prop := ∀ (pins : List (Addr × Obj)) (σ : St) (H : Hp) (s : Shared) (e : Value) (s' : Shared), Inv X pins σ H s → CX X.stack H s E e s' → X.xe e s'

section
variable {X : Cx} {CX : CXT} {k : Nat} {f C : Addr} {fd : FuncData} {ps : List Str} {sp : Sp} {dvs : List V} {ds : List Value} {E : XK} {x m : Str} {p pos apos : Pos} {e o : Expr} {es : List Expr} {ta : TE} {t : TA}


theorem run_fn {pins : List (Addr × Obj)} {σ : St} {H : Hp} {s : Shared} {Q : VK} {us : List Value} {vs : List V} (F : FnOk X.prog X.w X.K X.mg X.base CX k f fd ps sp) (hr : Room k X.A) (hb : Binds X.K fd ps ds) (hd : Vals dvs ds) (hx : Passes CX X E)
    (I : Inv X pins σ H s) (r : Vals vs us) (h : sp (vs ++ dvs) H Q E) : wpAny (model X.prog X.w) X.A (call (.ref f) us) (EP X pins σ Q) X.xe s := by
  have r2 : Vals (vs ++ dvs) (us ++ ds) := r.append hd
  have hl : (us ++ ds).length = ps.length := by rw [← r2.length]; exact F.len _ _ _ _ h
  refine wpAny_call (codeAny_mono (F.run X.A X.stack s H ⟨us, []⟩ (us ++ ds) (vs ++ dvs) Q E hr I.env0 (hb s us I.kIn hl) r2 h) fun r s' hq => ?_)
  cases r with
  | error e => exact hx pins σ H s e s' I hq
  | ok fl =>
    cases fl with
    | ret u => exact I.after hq
    | next => exact False.elim hq
    | brk => exact False.elim hq
    | cont => exact False.elim hq

theorem pe_call (F : FnOk X.prog X.w X.K X.mg X.base CX k f fd ps sp) (hr : Room k X.A) (hg : Gl X x) (hm : X.mg x = some (.ref f)) (hk : PySem.W.keepIn X.K (.ref f) = true) (hb : Binds X.K fd ps ds) (hd : Vals dvs ds) (hx : Passes CX X E)
    (ha : PA X (e :: es) t) (hdb : (x == ("__debug__" : Str)) = false := by decide) (he : starEach (e :: es) X.env = (false, eval e X.env) :: starEach es X.env := by rfl) (hpl : (backTo pos (starEach es X.env)).any (·.1) = false := by rfl) :
    PE X (.Call (.Name x p) (e :: es) [] pos) (tCall sp dvs E t) := by
  intro pins s σ H Q I h
  refine wpAny_Call_Name_kw (ld_glob I hg hm ?_ hdb)
  refine PySem.W.callWith_K (h₀ := X.base) I.ok.mod.kin hk (thn (ha pos pins s σ H _ I h) fun us s1 ⟨vs, H1, I1, r, q⟩ => ⟨I1.kIn, ?_⟩) he hpl
  exact run_fn F hr hb hd hx I1 r q
theorem pe_meth {pl : Sem Bool} (he : PE X o ta) (c : Cls X.K C) (hm : Meth X.K C m f) (F : FnOk X.prog X.w X.K X.mg X.base CX k f fd ps sp) (hr : Room k X.A) (hb : Binds X.K fd ps ds) (hd : Vals dvs ds) (hx : Passes CX X E) (ha : PA X (e :: es) t)
    (hst : starEach (e :: es) X.env = (false, eval e X.env) :: starEach es X.env := by rfl) (hpl : (backTo pos (starEach es X.env)).any (·.1) = false := by rfl)
    (ht : eval (.Call (.Attribute o m apos) (e :: es) [] pos) X.env = (do
      let ov ← eval o X.env
      standAt apos.atName
      let (f, first) ← holding [ov] (getMethod ov m pl)
      callWith pos f first (backTo pos (starEach (e :: es) X.env)) (backToKw pos (keywordEach [] X.env))) := by rfl) :
    PE X (.Call (.Attribute o m apos) (e :: es) [] pos) (tMeth C m sp dvs E ta t) := by
  intro pins s σ H Q I h
  refine PySem.W.methodCall_KW (pl := pl) (thn (he pins s σ H _ I h) fun u s1 ⟨x, H1, I1, rx, a, dx, fs, ex, ea, l, q⟩ => ?_) ht
  subst ex
  obtain rfl : u = Value.ref a := rx
  refine getmeth_ok I1 ea c hm l ?_
  refine PySem.W.callWith_K (first := [.ref a]) (h₀ := X.base) I.ok.mod.kin hm.kp (thn (ha pos pins s1 σ H1 _ I1 q) fun us s2 ⟨vs, H2, I2, r, q2⟩ => ⟨I2.kIn, ?_⟩) hst hpl
  exact run_fn (us := .ref a :: us) (vs := .ref a :: vs) F hr hb hd hx I2 (.cons rfl r) q2

theorem pe_meth0 {pl : Sem Bool} (he : PE X o ta) (c : Cls X.K C) (hm : Meth X.K C m f) (F : FnOk X.prog X.w X.K X.mg X.base CX k f fd ps sp) (hr : Room k X.A) (hb : Binds X.K fd ps ds) (hd : Vals dvs ds) (hx : Passes CX X E)
    (ht : eval (.Call (.Attribute o m apos) [] [] pos) X.env = (do
      let ov ← eval o X.env
      standAt apos.atName
      let (f, first) ← holding [ov] (getMethod ov m pl)
      callWith pos f first (backTo pos (starEach [] X.env)) (backToKw pos (keywordEach [] X.env))) := by rfl) :
    PE X (.Call (.Attribute o m apos) [] [] pos) (tMeth C m sp dvs E ta tNil) := by
  intro pins s σ H Q I h
  refine PySem.W.methodCall_KW (pl := pl) (thn (he pins s σ H _ I h) fun u s1 ⟨x, H1, I1, rx, a, dx, fs, ex, ea, l, q⟩ => ?_) ht
  subst ex
  obtain rfl : u = Value.ref a := rx
  refine getmeth_ok I1 ea c hm l ?_
  exact PySem.W.callWith_K0 (first := [.ref a]) I1.kIn hm.kp (run_fn (us := [.ref a]) (vs := [.ref a]) F hr hb hd hx I1 (.cons rfl .nil) q)


structure Mk (K : PySem.W.Frag) (C f : Addr) : Prop where
  makes : PySem.W.makesIn K C = true
  init : PySem.W.findIn K (.ref C) "__init__" = some (some (.ref f))
  fn : PySem.W.isFn K (.ref f) = true
  kp : PySem.W.keepIn K (.ref C) = true

theorem run_make {pins : List (Addr × Obj)} {σ : St} {H : Hp} {s : Shared} {Q : VK} {us : List Value} {vs : List V} (M : Mk X.K C f) (F : FnOk X.prog X.w X.K X.mg X.base CX k f fd ps sp) (hr : Room (k + 1) X.A) (hb : Binds X.K fd ps ds) (hd : Vals dvs ds)
    (hx : Passes CX X E) (I : Inv X pins σ H s) (r : Vals vs us)
    (h : ∀ x dx, H x = none → H dx = none → dx ≠ x → sp (.ref x :: (vs ++ dvs)) (upd (upd H dx (.own x)) x (.ins C dx [])) (fun v H2 => v = .non ∧ Q (.ref x) H2) E) :
    wpAny (model X.prog X.w) X.A (call (.ref C) us) (EP X pins σ Q) X.xe s := by
  have hq := h (s.heap.objs.size + 1) s.heap.objs.size (I.hok.fresh (Nat.le_succ _)) (I.hok.fresh (Nat.le_refl _)) (Nat.ne_of_lt (Nat.lt_succ_self _))
  have I2 := Inv.made (C := C) I
  have r2 : Vals (V.ref (s.heap.objs.size + 1) :: (vs ++ dvs)) (Value.ref (s.heap.objs.size + 1) :: (us ++ ds)) := .cons rfl (r.append hd)
  have hl : (Value.ref (s.heap.objs.size + 1) :: us ++ ds).length = ps.length := by
    have e := r2.length
    rw [F.len _ _ _ _ hq] at e
    exact e.symm
  refine wpAny_call (make_map (f := f) I.kIn M.makes M.init (beq_iff_eq.mp M.fn) (codeAny_mono (F.run _ X.stack _ _ ⟨Value.ref (s.heap.objs.size + 1) :: us, []⟩ (Value.ref (s.heap.objs.size + 1) :: (us ++ ds)) _ _ E (hr.make C us [])
    (I2.env0.make C us []) (hb _ (Value.ref (s.heap.objs.size + 1) :: us) I2.kIn hl) r2 hq) fun r s' hq' => ?_))
  cases r with
  | error e => exact hx pins σ _ _ e s' I2 hq'
  | ok fl =>
    cases fl with
    | ret u =>
      obtain ⟨v, H', I3, rv, ev, q3⟩ := I2.after hq'
      subst ev
      exact ⟨rv, ⟨V.ref (s.heap.objs.size + 1), H', I3, rfl, q3⟩⟩
    | next => exact False.elim hq'
    | brk => exact False.elim hq'
    | cont => exact False.elim hq'
theorem pe_make0 (M : Mk X.K C f) (F : FnOk X.prog X.w X.K X.mg X.base CX k f fd ps sp) (hr : Room (k + 1) X.A) (hg : Gl X x) (hm : X.mg x = some (.ref C)) (hb : Binds X.K fd ps ds) (hd : Vals dvs ds) (hx : Passes CX X E)
    (hdb : (x == ("__debug__" : Str)) = false := by decide) : PE X (.Call (.Name x p) [] [] pos) (tMake C sp dvs E tNil) := by
  intro pins s σ H Q I h
  refine wpAny_Call_Name_kw (ld_glob I hg hm ?_ hdb)
  exact PySem.W.callWith_K0 I.kIn M.kp (run_make (us := []) M F hr hb hd hx I .nil h)
end



def PK (X : Cx) (kws : List Keyword) (t : TA) : Prop :=
  ∀ (pos : Pos) (pins : List (Addr × Obj)) (s : Shared) (σ : St) (H : Hp) (Q : List V → Hp → Prop), Inv X pins σ H s → t σ H Q → wpAny (model X.prog X.w) X.A (evalAll ((backToKw pos (keywordEach kws X.env)).map (·.2))) (AP X pins σ Q) X.xe s
section
variable {X : Cx} {CX : CXT} {k : Nat} {f C : Addr} {fd : FuncData} {ps ks : List Str} {sp : Sp} {E : XK} {x m : Str} {p pos apos kpos : Pos} {e o : Expr} {es : List Expr} {kws : List Keyword} {te ta : TE} {t tk : TA} {nm : Option Str}
structure KBinds (K : PySem.W.Frag) (fd : FuncData) (ps ks : List Str) (g : List Value → List Value → List Value) (gV : List V → List V → List V) : Prop where
  to : ∀ (s : Shared) (us ws : List Value), K.In s.heap → (g us ws).length = ps.length → BindsTo s fd ⟨us, ks.zip ws⟩ (ps.zip (g us ws))
  rel : ∀ {vs : List V} {us : List Value} {zs : List V} {ws : List Value}, Vals vs us → Vals zs ws → Vals (gV vs zs) (g us ws)
def tCallK (sp : Sp) (gV : List V → List V → List V) (E : XK) (t tk : TA) : TE := fun σ H Q => t σ H fun vs H1 => tk σ H1 fun zs H2 => sp (gV vs zs) H2 Q E
variable {g : List Value → List Value → List Value} {gV : List V → List V → List V}
end



structure FnScope (N P : List Str) (sc : Scope) : Prop where
  kind : sc.kind = .function
  co : sc.isCoroutine = false
  gen : sc.isGenerator = false
  nd : N.Nodup
  pre : N.take P.length = P
  par : ∀ x ∈ P, sc.names.lookup x = some .local ∨ sc.names.lookup x = some .cell
  nofree : ∀ y ∈ sc.names, y.2 ≠ .free

theorem bindL_out {kindOf : Str → Option NameKind} {x : Str} : ∀ {binds : List (Str × Value)} {m : Str → Option Value}, (∀ v, (x, v) ∉ binds) → bindL kindOf binds m x = m x
  | [], _, _ => rfl
  | (n, v) :: r, m, h => by
    unfold bindL
    rw [bindL_out fun w hw => h w (List.mem_cons_of_mem _ hw)]
    split
    · have : x ≠ n := by rintro rfl; exact h v List.mem_cons_self
      simp [this]
    · rfl
theorem bindC_out {kindOf : Str → Option NameKind} {x : Str} : ∀ {binds : List (Str × Value)} {m : Str → Option Value}, (∀ v, (x, v) ∉ binds) → bindC kindOf binds m x = m x
  | [], _, _ => rfl
  | (n, v) :: r, m, h => by
    unfold bindC
    rw [bindC_out fun w hw => h w (List.mem_cons_of_mem _ hw)]
    split
    · rfl
    · have : x ≠ n := by rintro rfl; exact h v List.mem_cons_self
      simp [this]
theorem bindL_get {kindOf : Str → Option NameKind} {x : Str} {v : Value} : ∀ {P : List Str} {vs : List Value} {i : Nat} {m : Str → Option Value}, P.Nodup → P[i]? = some x → vs[i]? = some v → kindOf x = some .local →
    bindL kindOf (P.zip vs) m x = some v
  | [], _, _, _, _, h, _, _ => by simp at h
  | _ :: _, [], _, _, _, _, h, _ => by simp at h
  | p :: P, w :: vs, 0, m, nd, h1, h2, hk => by
    simp at h1 h2; subst h1; subst h2
    show bindL kindOf ((p, w) :: P.zip vs) m p = _
    unfold bindL
    rw [bindL_out fun v hv => (List.nodup_cons.mp nd).1 (List.of_mem_zip hv).1, if_pos hk]
    simp
  | p :: P, w :: vs, i + 1, m, nd, h1, h2, hk => by
    show bindL kindOf ((p, w) :: P.zip vs) m x = _
    unfold bindL
    exact bindL_get (i := i) (List.nodup_cons.mp nd).2 (by simpa using h1) (by simpa using h2) hk
theorem bindC_get {kindOf : Str → Option NameKind} {x : Str} {v : Value} : ∀ {P : List Str} {vs : List Value} {i : Nat} {m : Str → Option Value}, P.Nodup → P[i]? = some x → vs[i]? = some v → kindOf x ≠ some .local →
    bindC kindOf (P.zip vs) m x = some v
  | [], _, _, _, _, h, _, _ => by simp at h
  | _ :: _, [], _, _, _, _, h, _ => by simp at h
  | p :: P, w :: vs, 0, m, nd, h1, h2, hk => by
    simp at h1 h2; subst h1; subst h2
    show bindC kindOf ((p, w) :: P.zip vs) m p = _
    unfold bindC
    rw [bindC_out fun v hv => (List.nodup_cons.mp nd).1 (List.of_mem_zip hv).1, if_neg hk]
    simp
  | p :: P, w :: vs, i + 1, m, nd, h1, h2, hk => by
    show bindC kindOf ((p, w) :: P.zip vs) m x = _
    unfold bindC
    exact bindC_get (i := i) (List.nodup_cons.mp nd).2 (by simpa using h1) (by simpa using h2) hk


def start (N : List Str) (vs : List V) : St := vs.map some ++ List.replicate (N.length - vs.length) none


def cxOf (CX : CXT) (P : Program) (w : World) (K : PySem.W.Frag) (mg : Str → Option Value) (base : Heap) (N : List Str) (qual : Str) (scope : Scope) (f : Addr) (cd : Value) (A : Around) (outer : List Env) (s : Shared) (H : Hp) (E : XK) : Cx where
  prog := P
  w := w
  K := K
  mg := mg
  base := base
  A := A.deeper (envOfC qual scope s.heap.objs.size f cd)
  N := N
  s_0 := s
  H_0 := H
  env := envOfC qual scope s.heap.objs.size f cd
  outer := outer
  stack := envOfC qual scope s.heap.objs.size f cd :: outer
  ex := []
  calm := true
  fn := fun _ => true
  pn := []
  xe := fun e s' => wpAny (model P w) (A.deeper (envOfC qual scope s.heap.objs.size f cd)) (leaving (envOfC qual scope s.heap.objs.size f cd) e) (fun _ s'' => CX outer H s E e s'') (fun e' s'' => CX outer H s E e' s'') s'

theorem cell_has {sc : Scope} {n : Nat} {x : Str} (h : sc.names.lookup x = some .cell) : ∃ c, (cellsFrom n sc.names []).lookup x = some c := by
  have q := PySem.W.cellsFrom_some sc.names n [] (.inl h)
  exact Option.isSome_iff_exists.mp q

theorem inv_start {CX : CXT} {P : Program} {w : World} {K : PySem.W.Frag} {mg : Str → Option Value} {base : Heap} {N ps : List Str} {qual : Str} {scope : Scope} {f : Addr} {cd : Value} {A : Around} {outer : List Env} {s s1 : Shared} {H : Hp} {E : XK} {us : List Value} {vs : List V}
    (S : FnScope N ps scope) (hd : A.handled = none) (e0 : Env0 P w K mg base A outer s H) (hl : vs.length = ps.length) (r : Vals vs us)
    (x : InCallC s s.heap.objs.size (bindL (envOfC qual scope s.heap.objs.size f cd).kindOf (ps.zip us) fun _ => none) (cellsFrom (s.heap.objs.size + 1) scope.names []) (bindC (envOfC qual scope s.heap.objs.size f cd).kindOf (ps.zip us) fun _ => none) s1) :
    Inv (cxOf CX P w K mg base N qual scope f cd A outer s H E) [] (start N vs) H s1 := by
  have hpl : ps.length ≤ N.length := by have := congrArg List.length S.pre; rw [List.length_take] at this; omega
  obtain ⟨h1, tk, rfl, hk⟩ := x.done
  have noA : ∀ b : Addr, b ∉ (cxOf CX P w K mg base N qual scope f cd A outer s H E).ex := fun b z => absurd (show b ∈ ([] : List Addr) from z) (by simp)
  refine ⟨⟨e0.mod, S.kind, rfl, rfl, Nat.le_refl _, fun y z c h1 h2 => ?_, fun y hy => ?_, fun y c _ h => ?_, fun _ => hd, Around.frames_deeper e0.frames, .inr ⟨rfl, rfl⟩, fun b z => absurd z (noA b), e0.bs, e0.bsz, fun b _ _ => noA b, fun b z => absurd z (noA b), e0.funs, e0.frf⟩,
    rfl, e0.bare, Un.kept hk, ⟨_, x.toInCall.ns, fun i y v h1 h2 h3 => ?_⟩, fun y c h => ⟨_, x.cell y c h⟩, e0.hok.fresh (Nat.le_refl _), fun y c h => ?_, fun p hp => absurd (show p ∈ ([] : List (Addr × Obj)) from hp) (by simp), e0.hok.kept hk, ?_⟩
  · exact name_of_addr x.apart (PySem.mem_of_lookup h1) (PySem.mem_of_lookup h2)
  · have hy : scope.names.lookup y = some .cell ∨ scope.names.lookup y = some .free := hy
    rcases hy with hy | hy
    · exact cell_has hy
    · exact absurd rfl (S.nofree _ (PySem.mem_of_lookup hy))
  · exact Nat.le_of_lt (x.above y c (PySem.mem_of_lookup h))
  · have hi : i < vs.length := by
      unfold start at h2
      by_cases hi : i < vs.length
      · exact hi
      · rw [List.getElem?_append_right (by simpa using hi)] at h2
        rw [List.getElem?_replicate] at h2
        split at h2 <;> cases h2
    have ha : vs[i]? = some v := by
      unfold start at h2
      rw [List.getElem?_append_left (by simpa using hi), List.getElem?_map] at h2
      cases e : vs[i]? with
      | none => rw [e] at h2; cases h2
      | some a => rw [e] at h2; cases h2; rfl
    obtain ⟨u, hu, rv⟩ := r.get ha
    have hp : ps[i]? = some y := by
      rw [← S.pre, List.getElem?_take_of_lt (by omega)]; exact h1
    have ndP : ps.Nodup := by rw [← S.pre]; exact S.nd.sublist (List.take_sublist _ _)
    refine ⟨u, rv, ?_⟩
    rcases S.par y (List.mem_of_getElem? hp) with k | k
    · exact .inl ⟨k, bindL_get ndP hp hu k⟩
    · obtain ⟨c, e⟩ := cell_has (n := s.heap.objs.size + 1) k
      refine .inr ⟨.inl k, c, e, ?_⟩
      have q := x.cell y c e
      rw [bindC_get ndP hp hu (by show scope.names.lookup y ≠ _; rw [k]; decide)] at q
      exact q
  · exact e0.hok.fresh (Nat.le_of_lt (x.above y c (PySem.mem_of_lookup h)))
  · unfold start
    show _ = N.length
    rw [List.length_append, List.length_map, List.length_replicate]
    omega


theorem fn_of {CX : CXT} {P : Program} {w : World} {K : PySem.W.Frag} {mg : Str → Option Value} {base : Heap} {k : Nat} {f : Addr} {name qual : Str} {params : Arguments} {body : List Stmt} {scope : Scope} {dV kV doc pm cdv ct oc : Value} {an od : Option Addr}
    {osl : Array (Option Value)} {N ps : List Str} {sp : Sp} (lk : K.lookup f = some ⟨oc, od, .func (PySem.W.fnOf name qual params body scope dV kV doc pm an cdv ct), osl⟩) (hcd : PySem.W.codeIn K cdv qual = true) (S : FnScope N ps scope)
    (len : ∀ vs H Q E, sp vs H Q E → vs.length = ps.length)
    (hbody : ∀ (A : Around) (outer : List Env) (s : Shared) (H : Hp) (vs : List V) (Q : VK) (E : XK), Room k (A.deeper (envOfC qual scope s.heap.objs.size f cdv)) → sp vs H Q E →
      ∃ t, PSs (cxOf CX P w K mg base N qual scope f cdv A outer s H E) body t ∧ t { nx := fun _ H' => Q .non H', rt := Q } (start N vs) H) :
    FnOk P w K mg base CX (k + 1) f (PySem.W.fnOf name qual params body scope dV kV doc pm an cdv ct) ps sp := by
  refine ⟨len, fun A outer s H args us vs Q E hr e0 hb r hsp => ?_⟩
  have hl := len _ _ _ _ hsp
  have KX : K.In s.heap := e0.mod.kin.keeps fun b o e => (e0.bs b o e).1
  have lim : s.heap.NoLimit := e0.mod.nolimit.keeps fun b o e => (e0.bs b o e).1
  have hkind : ∀ y ∈ ps.zip us, scope.names.lookup y.1 = some .local ∨ (scope.names.lookup y.1 = some .cell ∧ ((cellsFrom (s.heap.objs.size + 1) scope.names []).lookup y.1).isSome = true) := fun ⟨n, v⟩ hy => by
    rcases S.par n (List.of_mem_zip hy).1 with q | q
    · exact .inl q
    · exact .inr ⟨q, PySem.W.cellsFrom_some _ _ _ (.inl q)⟩
  refine codeAny_call_function hr.depth (KX _ _ lk) rfl S.co S.gen rfl (PySem.W.codeRec_of KX hcd) (hb _ _ _ _ ?_)
  refine wpAny_newFunctionEnv_cells S.kind hkind fun env he s1 x => ?_
  subst he
  refine ⟨lim.keeps x.toInCall.keep, codeAny_func ?_⟩
  obtain ⟨t, ht, hq⟩ := hbody A outer s H vs Q E (hr.deeper _) hsp
  have I : Inv (cxOf CX P w K mg base N qual scope f cdv A outer s H E) [] (start N vs) H s1 := inv_start S hr.hd e0 hl r x
  refine wpAny_mono (ht [] s1 (start N vs) H _ I hq) (fun fl s' hs => ?_) fun e s' hs => hs
  have fin : ∀ {σ' : St} {H' : Hp} {v : V} {u : Value}, Inv (cxOf CX P w K mg base N qual scope f cdv A outer s H E) [] σ' H' s' → RelV v u → Q v H' → CE outer P w H s Q u s' :=
    fun {σ' H' v u} J rv q => ⟨v, H', J.os, J.bare, J.base, J.hok, rv, q⟩
  cases fl with
  | ret u =>
    obtain ⟨v, σ', H', J, rv, q⟩ := hs
    exact fin J rv q
  | next =>
    obtain ⟨σ', H', J, q⟩ := hs
    exact fin (v := V.non) (u := Value.none) J rfl q
  | brk =>
    obtain ⟨_, _, _, q⟩ := hs
    exact False.elim q
  | cont =>
    obtain ⟨_, _, _, q⟩ := hs
    exact False.elim q
end L2

namespace L2
open PySem PySem.Spec PyProof.Rows
section
variable {X : Cx} {x : Str} {p pos : Pos} {e : Expr} {es : List Expr} {t : TA} {id T : String} {r : List V → Hp → VK → Prop}

def tCB (r : List V → Hp → VK → Prop) (t : TA) : TE := fun σ H Q => t σ H fun vs H1 => r vs H1 Q

theorem pe_callB (hc : CallR X (.builtin id) r) (hg : Gl X x) (hm : X.mg x = none) (hv : bootBuiltins x = some (.builtin id)) (ha : PA X (e :: es) t) (hn : x ≠ "__name__" := by decide) (hdb : (x == ("__debug__" : Str)) = false := by decide)
    (he : starEach (e :: es) X.env = (false, eval e X.env) :: starEach es X.env := by rfl) (hpl : (backTo pos (starEach es X.env)).any (·.1) = false := by rfl) : PE X (.Call (.Name x p) (e :: es) [] pos) (tCB r t) := by
  intro pins s σ H Q I h
  refine wpAny_Call_Name_kw (ld_blt I hg hm hv ?_ hn hdb)
  exact PyProof.Rows.callWith_builtin1 (thn (ha pos pins s σ H _ I h) fun us s1 ⟨vs, H1, I1, r1, q1⟩ => hc pins s1 σ H1 vs us Q I1 r1 q1) he hpl

theorem pe_callTy (hc : CallR X (.type T) r) (hg : Gl X x) (hm : X.mg x = none) (hv : bootBuiltins x = some (.type T)) (ha : PA X (e :: es) t) (hn : x ≠ "__name__" := by decide) (hdb : (x == ("__debug__" : Str)) = false := by decide)
    (he : starEach (e :: es) X.env = (false, eval e X.env) :: starEach es X.env := by rfl) (hpl : (backTo pos (starEach es X.env)).any (·.1) = false := by rfl) : PE X (.Call (.Name x p) (e :: es) [] pos) (tCB r t) := by
  intro pins s σ H Q I h
  refine wpAny_Call_Name_kw (ld_blt I hg hm hv ?_ hn hdb)
  exact PyProof.Rows.callWith_type1 (thn (ha pos pins s σ H _ I h) fun us s1 ⟨vs, H1, I1, r1, q1⟩ => hc pins s1 σ H1 vs us Q I1 r1 q1) he hpl

end
end L2

namespace HT
open PySem PyProof.Rows


def lexLt : List Int → List Int → Bool
  | [], [] => false
  | [], _ :: _ => true
  | _ :: _, [] => false
  | x :: xs, y :: ys => if x = y then lexLt xs ys else decide (x < y)
section
open PySem.SeqAt
open PySem.AutoSeq1 (wpAny_loadPart')
open PySem.MeetsSeq PySem.MeetsSeq2 PySem.MeetsSeq3

end

section
variable {prog : Program} {w : World} {A : Around} {E : Value → Shared → Prop} {s : Shared}

def sIx (n d : Nat) : Option Int → Nat
  | none => d
  | some v => if v < 0 then (v + (n : Int)).toNat else min v.toNat n
theorem sIx_none (n d : Nat) : sIx n d none = d := rfl
theorem sIx_nat (n d k : Nat) : sIx n d (some (k : Int)) = min k n := by
  show (if (k : Int) < 0 then ((k : Int) + (n : Int)).toNat else min (k : Int).toNat n) = min k n
  rw [if_neg (by omega), Int.toNat_natCast]
end
end HT

namespace L2
open PySem PySem.Spec PyProof.Rows


abbrev TO := St → Hp → (Option Int → Hp → Prop) → Prop

def PO (X : Cx) (e : Option Expr) (t : TO) : Prop :=
  ∀ (pins : List (Addr × Obj)) (s : Shared) (σ : St) (H : Hp) (Q : Option Int → Hp → Prop), Inv X pins σ H s → t σ H Q →
    wpAny (model X.prog X.w) X.A (evalPart e X.env) (fun u s' => ∃ o H', Inv X pins σ H' s' ∧ IsPart u o ∧ Q o H') X.xe s
def tNoPart : TO := fun _ H Q => Q none H
def tPart (t : TE) : TO := fun σ H Q => t σ H fun x H1 => ∃ i, x = .int i ∧ Q (some i) H1

section
variable {X : Cx} {e : Expr} {te : TE} {lo hi : Option Expr} {tl th : TO} {pos p2 : Pos}

theorem po_none : PO X none tNoPart := by
  intro pins s σ H Q I h
  rw [evalPart_none]
  exact wpAny_pure ⟨none, H, I, .none, h⟩
theorem po_some (h : PE X e te) : PO X (some e) (tPart te) := by
  intro pins s σ H Q I hw
  rw [evalPart_some]
  refine thn (h pins s σ H _ I hw) fun u s1 ⟨x, H1, I1, r1, q1⟩ => ?_
  obtain ⟨i, rfl, q⟩ := q1
  obtain ⟨t, rfl⟩ := r1
  exact ⟨some i, H1, I1, .int i t, q⟩


def SlR (X : Cx) (r : V → Option Int → Option Int → Hp → VK → Prop) : Prop :=
  ∀ (pins : List (Addr × Obj)) (s : Shared) (σ : St) (H : Hp) (x : V) (v vl vu : Value) (lo hi : Option Int) (sl : Addr) (Q : VK), Inv X pins σ H s → RelV x v → s.heap.IsSliceOf sl vl vu .none → IsPart vl lo → IsPart vu hi → r x lo hi H Q →
    ∃ T id, typeLookup (.type T) "__getitem__" = pure (some (.builtin id)) ∧ s.TypeIs v T ∧ wpAny (model X.prog X.w) X.A (getItem v (.ref sl)) (EP X pins σ Q) X.xe s
def tSl (r : V → Option Int → Option Int → Hp → VK → Prop) (te : TE) (tl th : TO) : TE := fun σ H Q => te σ H fun x H1 => tl σ H1 fun l H2 => th σ H2 fun u H3 => r x l u H3 Q

theorem pe_slice {r : V → Option Int → Option Int → Hp → VK → Prop} (hr : SlR X r) (he : PE X e te) (hl : PO X lo tl) (hu : PO X hi th) : PE X (.Subscript e (.Slice lo hi none p2) pos) (tSl r te tl th) := by
  intro pins s σ H Q I h
  refine Subscript_ (thn (he pins s σ H _ I h) fun v s1 ⟨x, H1, I1, r1, q1⟩ => ?_)
  refine wpAny_Slice (thn (hl pins s1 σ H1 _ I1 q1) fun vl s2 ⟨l, H2, I2, pl, q2⟩ => thn (hu pins s2 σ H2 _ I2 q2) fun vu s3 ⟨u, H3, I3, pu, q3⟩ => ?_)
  rw [evalPart_none]
  refine wpAny_pure ?_
  have I4 : Inv X pins σ H3 { s3 with heap := s3.heap.push { cls := .type "slice", data := .fields #[vl, vu, .none] } } := I3.kept (t' := s3.toks) fun b ob q => Heap.get?_push_of_some _ q
  obtain ⟨T, id, hT, ht, hg⟩ := hr pins { s3 with heap := s3.heap.push { cls := .type "slice", data := .fields #[vl, vu, .none] } } σ H3 x v vl vu l u s3.heap.objs.size Q I4 r1 (Heap.IsSliceOf.new ..) pl pu q3
  show wpAny (model X.prog X.w) X.A (subscriptTail e (.Slice lo hi none p2) v (.ref s3.heap.objs.size)) (EP X pins σ Q) X.xe { s3 with heap := s3.heap.push { cls := .type "slice", data := .fields #[vl, vu, .none] } }
  exact tail_any (ops := [.ref s3.heap.objs.size, v]) ht hT hg (by with_unfolding_all rfl)


def cutV (xs : List V) (lo hi : Option Int) : List V := (xs.drop (HT.sIx xs.length 0 lo)).take (HT.sIx xs.length xs.length hi - HT.sIx xs.length 0 lo)
theorem cutV_length (xs : List V) (lo hi : Option Int) : (cutV xs lo hi).length ≤ xs.length := by
  unfold cutV
  rw [List.length_take, List.length_drop]
  omega

def rSlT (K : PySem.W.Frag) : V → Option Int → Option Int → Hp → VK → Prop := fun x lo hi H Q => ∃ a xs, x = .ref a ∧ SqT K H a xs ∧
  ¬ (HT.sIx xs.length 0 lo = 0 ∧ HT.sIx xs.length xs.length hi = xs.length) ∧ ∀ p, H p = none → Q (.ref p) (upd H p (.tup (cutV xs lo hi)))
def rLtT (K : PySem.W.Frag) : R2 := fun x y H Q => ∃ a b ns ms, x = .ref a ∧ y = .ref b ∧ SqT K H a (ns.map V.int) ∧ SqT K H b (ms.map V.int) ∧ Q (.bl (HT.lexLt ns ms)) H
def rCatT (K : PySem.W.Frag) : R2 := fun x y H Q => ∃ a b xs ys, x = .ref a ∧ y = .ref b ∧ SqT K H a xs ∧ SqT K H b ys ∧ xs ≠ [] ∧ xs.length + ys.length ≤ sizeLine ∧
  (ys = [] → Q (.ref a) H) ∧ (ys ≠ [] → ∀ p, H p = none → Q (.ref p) (upd H p (.tup (xs ++ ys))))
end
end L2

namespace L2
open PySem PySem.Spec PyProof.Rows



def ixN (n : Nat) (i : Int) : Option Nat := if 0 ≤ i then (if i < n then some i.toNat else none) else if -(n : Int) ≤ i then some (i + n).toNat else none
def atI {α : Type} (xs : List α) (i : Int) : Option α := (ixN xs.length i).bind fun j => xs[j]?
theorem ixN_seq {n : Nat} {i : Int} {j : Nat} (h : ixN n i = some j) : seqIndex? i n = some j ∧ j < n ∧ -(n : Int) ≤ i ∧ i < n := by
  unfold ixN at h
  by_cases h0 : 0 ≤ i
  · rw [if_pos h0] at h
    by_cases h1 : i < n
    · rw [if_pos h1] at h
      have e : i.toNat = j := Option.some.inj h
      exact ⟨by rw [seqIndex_of h0 h1, e], by omega, by omega, h1⟩
    · rw [if_neg h1] at h; cases h
  · rw [if_neg h0] at h
    by_cases h1 : -(n : Int) ≤ i
    · rw [if_pos h1] at h
      have e : (i + n).toNat = j := Option.some.inj h
      exact ⟨by rw [seqIndex_neg (by omega) h1, e], by omega, h1, by omega⟩
    · rw [if_neg h1] at h; cases h
theorem atI_get {α : Type} {xs : List α} {i : Int} {v : α} (h : atI xs i = some v) : ∃ j, seqIndex? i xs.length = some j ∧ xs[j]? = some v ∧ j < xs.length ∧ -(xs.length : Int) ≤ i ∧ i < xs.length := by
  unfold atI at h
  cases e : ixN xs.length i with
  | none => rw [e] at h; cases h
  | some j =>
    rw [e] at h
    obtain ⟨h1, h2, h3, h4⟩ := ixN_seq e
    exact ⟨j, h1, h, h2, h3, h4⟩
theorem atI_nat {α : Type} {xs : List α} {j : Nat} {v : α} (h : xs[j]? = some v) : atI xs (j : Int) = some v := by
  have hj : j < xs.length := (List.getElem?_eq_some_iff.mp h).1
  have e : ixN xs.length (j : Int) = some j := by
    unfold ixN
    rw [if_pos (by omega), if_pos (by omega)]; simp
  unfold atI; rw [e]; exact h
def PlainIx (b : Expr) : Prop := ∀ o i, subscripted b false o i = operate [o, i] (getItem o i)

def IxR (X : Cx) (r : R2) : Prop :=
  ∀ (value slice : Expr) (pins : List (Addr × Obj)) (s : Shared) (σ : St) (H : Hp) (x y : V) (v u : Value) (Q : VK), Inv X pins σ H s → RelV x v → RelV y u → r x y H Q →
    subscripted slice false v u = operate [v, u] (getItem v u) → wpAny (model X.prog X.w) X.A (subscriptTail value slice v u) (EP X pins σ Q) X.xe s

def MtR (X : Cx) (id : String) (r : V → List V → Hp → VK → Prop) : Prop :=
  ∀ (pins : List (Addr × Obj)) (s : Shared) (σ : St) (H : Hp) (x : V) (xs : List V) (v : Value) (us : List Value) (Q : VK), Inv X pins σ H s → RelV x v → Vals xs us → r x xs H Q →
    wpAny (model X.prog X.w) X.A (call (.builtin id) (v :: us)) (EP X pins σ Q) X.xe s
section
variable {X : Cx} {a b : Expr} {ta tb : TE} {pos : Pos}
theorem pe_ix {r : R2} (hr : IxR X r) (ha : PE X a ta) (hb : PE X b tb) (hs : PlainIx b) : PE X (.Subscript a b pos) (tOp r ta tb) := by
  intro pins s σ H Q I h
  exact Subscript_ (binT ha hb I h fun v u s2 x y H2 I2 rx ry q => hr a b pins s2 σ H2 x y v u Q I2 rx ry q (hs _ _))

def rIxL (K : PySem.W.Frag) : R2 := fun x y H Q => ∃ p xs i v, x = .ref p ∧ y = .int i ∧ SqL K H p xs ∧ atI xs i = some v ∧ Q v H
def rIxT (K : PySem.W.Frag) : R2 := fun x y H Q => ∃ p xs i v, x = .ref p ∧ y = .int i ∧ SqT K H p xs ∧ atI xs i = some v ∧ Q v H
def rIxS : R2 := fun x y H Q => ∃ z i c, x = .str z ∧ y = .int i ∧ z.length ≤ sizeLine ∧ atI z.cps.toList i = some c ∧ Q (.str ⟨#[c]⟩) H
theorem ix_list : IxR X (rIxL X.K) := by
  intro value slice pins s σ H x y v u Q I rx ry h hs
  obtain ⟨p, xs, i, z, rfl, rfl, hq, he, q⟩ := h
  cases rx
  obtain ⟨t, rfl⟩ := ry
  obtain ⟨its, r, pl, hz⟩ := I.list hq
  obtain ⟨j, h1, h2, h3, h4, h5⟩ := atI_get he
  obtain ⟨w, ew, rw'⟩ := r.get h2
  have hl := r.length
  have hn := line63
  have fin : EP X pins σ Q w s := ⟨z, H, I, rw', q⟩
  by_cases h0 : 0 ≤ i
  · have hj : i.toNat = j := by
      rw [seqIndex_of h0 h5] at h1
      exact Option.some.inj h1
    exact item_listR pl.isList h0 (by omega) (by rw [hj]; simpa using ew) fin hs
  · have hj : (i + (its.toArray.size : Int)).toNat = j := by
      rw [seqIndex_neg (by omega) h4] at h1
      rw [List.size_toArray, ← hl]
      exact Option.some.inj h1
    exact subscriptTail_builtinR (x := w) pl.isList.typeIs slot_list_getitem.lookup
      (wpAny_getItem_list_neg (Q := fun r s' => r = w ∧ EP X pins σ Q r s') pl.isList (by omega) (by rw [List.size_toArray] <;> omega) (by omega) (by rw [hj]; simpa using ew) ⟨rfl, fin⟩) hs
theorem ix_tup : IxR X (rIxT X.K) := by
  intro value slice pins s σ H x y v u Q I rx ry h hs
  obtain ⟨p, xs, i, z, rfl, rfl, hq, he, q⟩ := h
  cases rx
  obtain ⟨t, rfl⟩ := ry
  obtain ⟨its, r, pl, hz⟩ := I.tuple hq
  obtain ⟨j, h1, h2, h3, h4, h5⟩ := atI_get he
  obtain ⟨w, ew, rw'⟩ := r.get h2
  have hl := r.length
  have hn := line63
  have fin : EP X pins σ Q w s := ⟨z, H, I, rw', q⟩
  exact subscriptTail_builtinR (x := w) pl.typeIs slot_tuple_getitem.lookup
    (getItem_tuple (j := j) (Q := fun r s' => r = w ∧ EP X pins σ Q r s') pl (by omega) (by omega) (by rw [List.size_toArray, ← hl]; exact h1) (by simpa using ew) ⟨rfl, fin⟩) hs
def rIx (K : PySem.W.Frag) : R2 := fun x y H Q => rIxL K x y H Q ∨ rIxT K x y H Q ∨ rIxS x y H Q
theorem mapSeq_set (its : List Value) (n j : Nat) (u : Value) : Obj.mapSeq (·.setIfInBounds j u) { cls := .type "list", data := .seq its.toArray n } = { cls := .type "list", data := .seq (its.set j u).toArray n } := by
  simp [Obj.mapSeq]
theorem Inv.lst {pins : List (Addr × Obj)} {σ : St} {H : Hp} {s : Shared} {p : Addr} {xs : List V} (I : Inv X pins σ H s) (h : H p = some (.lst xs)) :
    ∃ (its : List Value) (n : Nat), Vals xs its ∧ s.heap.get? p = some { cls := .type "list", data := .seq its.toArray n } ∧ xs.length ≤ sizeLine := by
  obtain ⟨z, its, n, r, e⟩ := I.hok p _ h
  exact ⟨its, n, r, e, z⟩

theorem Inv.lstUpd {pins : List (Addr × Obj)} {σ : St} {H : Hp} {s : Shared} {p : Addr} {xs ys : List V} {its its' : List Value} {n n' : Nat} {f : Obj → Obj} (I : Inv X pins σ H s) (h : H p = some (.lst xs))
    (ho : s.heap.get? p = some { cls := .type "list", data := .seq its.toArray n }) (hf : f { cls := .type "list", data := .seq its.toArray n } = { cls := .type "list", data := .seq its'.toArray n' }) (r : Vals ys its') (hz : ys.length ≤ sizeLine) (t : Nat) :
    Inv X pins σ (upd H p (.lst ys)) { s with heap := s.heap.update p f, toks := t } := by
  have e : (s.heap.update p f).get? p = some { cls := .type "list", data := .seq its'.toArray n' } := by
    rw [Heap.get?_update_self f ho (by rw [hf] <;> rfl), hf]
  refine I.write (x := p) (e := p) (by rw [h]; trivial) (.inl rfl) (fun b u hb q => (Heap.get?_update_other _ _ (Ne.symm hb)).trans q) ⟨_, e⟩ ?_
  exact ⟨hz, its', n', r, e⟩
def rSetL : V → V → V → Hp → (Hp → Prop) → Prop := fun o i v H Q => ∃ p xs k j, o = .ref p ∧ i = .int k ∧ H p = some (.lst xs) ∧ ixN xs.length k = some j ∧ Q (upd H p (.lst (xs.set j v)))
theorem set_list : PSet X rSetL := by
  intro pins s σ H o i v ov iv u Q I ro ri rv h
  obtain ⟨p, xs, k, j, rfl, rfl, hp, hj, q⟩ := h
  cases ro
  obtain ⟨t, rfl⟩ := ri
  obtain ⟨its, n, r, ho, hz⟩ := I.lst hp
  obtain ⟨h1, h2, h3, h4⟩ := ixN_seq hj
  have hl := r.length
  have hn := line63
  have I' : Inv X pins σ (upd H p (.lst (xs.set j v))) { s with heap := s.heap.update p (Obj.mapSeq (·.setIfInBounds j u)) } :=
    I.lstUpd hp ho (mapSeq_set its n j u) (r.set rv j) (by rw [List.length_set]; exact hz) s.toks
  by_cases h0 : 0 ≤ k
  · have hk : k.toNat = j := by
      rw [seqIndex_of h0 h4] at h1
      exact Option.some.inj h1
    exact PySem.W.ki_setAt ho h0 (by omega) (by rw [List.size_toArray, ← hl]; exact h4) (by rw [hk]; exact ⟨_, I', q⟩)
  · have hk : (k + (its.toArray.size : Int)).toNat = j := by
      rw [seqIndex_neg (by omega) h3] at h1
      rw [List.size_toArray, ← hl]
      exact Option.some.inj h1
    exact PySem.W.ki_setBack ho (by omega) (by rw [List.size_toArray, ← hl]; exact h3) (by omega) (by rw [hk]; exact ⟨_, I', q⟩)


theorem slice_bounds (lo hi : Option Int) (n : Nat) : (sliceBounds lo hi none n).1 = ((HT.sIx n 0 lo : Nat) : Int) ∧ (sliceBounds lo hi none n).2.1 = ((HT.sIx n n hi : Nat) : Int) ∧ (sliceBounds lo hi none n).2.2 = 1 := by
  refine ⟨?_, ?_, rfl⟩
  · cases lo with
    | none => simp [sliceBounds, HT.sIx]
    | some i =>
      simp only [sliceBounds, HT.sIx, Option.getD_none, show (1 : Int) > 0 by decide, if_true]
      by_cases h : i < 0
      · simp only [h, if_true] <;> omega
      · simp only [h, if_false] <;> omega
  · cases hi with
    | none => simp [sliceBounds, HT.sIx]
    | some i =>
      simp only [sliceBounds, HT.sIx, Option.getD_none, show (1 : Int) > 0 by decide, if_true]
      by_cases h : i < 0
      · simp only [h, if_true] <;> omega
      · simp only [h, if_false] <;> omega
theorem slicePick_cut (its : List Value) (lo hi : Option Int) : slicePick its.toArray lo hi none = ((its.drop (HT.sIx its.length 0 lo)).take (HT.sIx its.length its.length hi - HT.sIx its.length 0 lo)).toArray := by
  obtain ⟨h1, h2, h3⟩ := slice_bounds lo hi its.toArray.size
  unfold slicePick
  rw [h1, h2, h3]
  simp only [sliceRange_one, pick_run, List.size_toArray] <;> rfl

def rSlL (K : PySem.W.Frag) : V → Option Int → Option Int → Hp → VK → Prop := fun x lo hi H Q => ∃ a xs, x = .ref a ∧ SqL K H a xs ∧ ∀ p, H p = none → Q (.ref p) (upd H p (.lst (cutV xs lo hi)))
theorem sl_list : SlR X (rSlL X.K) := by
  intro pins s σ H x v vl vu lo hi sl Q I rx hs pl pu h
  obtain ⟨a, xs, rfl, hx, q⟩ := h
  cases rx
  obtain ⟨its, r, ht, hz⟩ := I.list hx
  have hlen := r.length
  refine ⟨"list", _, slot_list_getitem.lookup, ht.isList.typeIs, ?_⟩
  refine wpAny_getItem_list_slice ht.isList hs pl pu .none (by simp) ?_ (by rw [List.size_toArray] <;> omega)
  rw [slicePick_cut, ← hlen]
  refine ⟨.ref s.heap.objs.size, _, I.laid (t' := s.toks) (o := .lst (cutV xs lo hi)) (fun b ob q => Heap.get?_push_of_some _ q) (Nat.le_refl _) ?_, rfl, q _ (I.hok.fresh (Nat.le_refl _))⟩
  exact ⟨Nat.le_trans (cutV_length xs lo hi) hz, _, 0, (r.drop (HT.sIx xs.length 0 lo)).take (HT.sIx xs.length xs.length hi - HT.sIx xs.length 0 lo), Heap.get?_push_size _ rfl⟩


def flatV : V → Bool
  | .non => true
  | .bl _ => true
  | .int _ => true
  | .str _ => true
  | _ => false

def eqV : V → V → Bool
  | .non, .non => true
  | .bl a, .bl b => a == b
  | .bl a, .int b => (if a then 1 else 0) == b
  | .int a, .bl b => a == (if b then 1 else 0)
  | .int a, .int b => a == b
  | .str a, .str b => a == b
  | _, _ => false
def eqU (x : V) (u : Value) : Bool := match u with
  | .none => eqV .non x
  | .bool b => eqV (.bl b) x
  | .int i _ => eqV (.int i) x
  | .str z _ => eqV (.str z) x
  | _ => false
def inV (x : V) (xs : List V) : Bool := xs.any fun y => eqV y x

def rIn (K : PySem.W.Frag) (neg : Bool) : R2 := fun x y H Q => ∃ p xs, y = .ref p ∧ (SqL K H p xs ∨ SqT K H p xs) ∧ flatV x = true ∧ xs.all flatV = true ∧ Q (.bl (if neg then !inV x xs else inV x xs)) H
theorem call_len_seq : CallR X (.builtin "len") (fun xs H Q => ∃ p ys, xs = [.ref p] ∧ (SqL X.K H p ys ∨ SqT X.K H p ys) ∧ Q (.int ys.length) H) := by
  intro pins s σ H xs us Q I r h
  obtain ⟨p, ys, rfl, hq, q⟩ := h
  obtain ⟨u, rfl, rx⟩ := vals1 r
  cases rx
  have hn := line63
  rcases hq with hq | hq
  · obtain ⟨its, r', pl, hz⟩ := I.list hq
    have hlen := r'.length
    exact Calls.call_len_list pl.isList (by simp only [List.size_toArray] <;> omega) ⟨.int ys.length, H, I.tok _, ⟨s.toks + 1, by rw [List.size_toArray, hlen]⟩, q⟩
  · obtain ⟨its, r', pl, hz⟩ := I.tuple hq
    have hlen := r'.length
    exact len_tuple pl (by simp only [List.size_toArray] <;> omega) ⟨.int ys.length, H, I.tok _, ⟨s.toks + 1, by rw [List.size_toArray, hlen]⟩, q⟩
def tyV (K : PySem.W.Frag) (T : String) (x : V) (H : Hp) : Prop := match x with
  | .str _ => T = "str"
  | .int _ => T = "int"
  | .ref p => (T = "list" ∧ ∃ xs, SqL K H p xs) ∨ (T = "tuple" ∧ ∃ o, K.lookup p = some o ∧ o.cls = .type "tuple" ∧ o.dict = none) ∨
      (T = "dict" ∧ ((∃ kvs, H p = some (.dK kvs)) ∨ ∃ kvs, H p = some (.dT kvs))) ∨ (T = "set" ∧ ∃ S n, H p = some (.set S n))
  | _ => False
theorem tyV_is {pins : List (Addr × Obj)} {σ : St} {H : Hp} {s : Shared} {T : String} {x : V} {v : Value} (I : Inv X pins σ H s) (r : RelV x v) (ty : tyV X.K T x H) :
    s.TypeIs v T ∧ ∀ a, v = .ref a → ∃ ob, s.heap.get? a = some ob ∧ ob.dict = none := by
  cases x with
  | str z =>
    obtain ⟨t, rfl⟩ := r
    cases (show T = "str" from ty)
    exact ⟨typeIs_str s z t, fun _ e => nomatch e⟩
  | int i =>
    obtain ⟨t, rfl⟩ := r
    cases (show T = "int" from ty)
    exact ⟨typeIs_int s i t, fun _ e => nomatch e⟩
  | ref p =>
    cases r
    rcases ty with ⟨rfl, xs, hq⟩ | ⟨rfl, o, hk, hc, hd⟩ | ⟨rfl, hk⟩ | ⟨rfl, S, n, hk⟩
    · obtain ⟨its, _, pl, _⟩ := I.list hq
      refine ⟨pl.isList.typeIs, fun a e => ?_⟩
      cases e
      obtain ⟨o, n, e, c, hd, _⟩ := pl
      exact ⟨o, e, hd⟩
    · refine ⟨⟨o, I.kIn p o hk, hc⟩, fun a e => ?_⟩
      cases e
      exact ⟨o, I.kIn _ o hk, hd⟩
    · have z : ∃ o, s.heap.get? p = some o ∧ o.ExactDict := by
        rcases hk with ⟨kvs, hk⟩ | ⟨kvs, hk⟩
        · obtain ⟨_, _, _, _, o, _, _, e, ex, _⟩ := I.hok p _ hk
          exact ⟨o, e, ex⟩
        · obtain ⟨_, _, _, _, o, _, _, e, ex, _⟩ := I.hok p _ hk
          exact ⟨o, e, ex⟩
      obtain ⟨o, e, ex⟩ := z
      refine ⟨⟨o, e, ex.1⟩, fun a e2 => ?_⟩
      cases e2
      exact ⟨o, e, ex.2.1⟩
    · obtain ⟨o, _, _, _, e, ex, _⟩ := I.hok p _ hk
      refine ⟨⟨o, e, ex.1⟩, fun a e2 => ?_⟩
      cases e2
      exact ⟨o, e, ex.2.1⟩
  | _ => exact False.elim ty
def tBM0 (K : PySem.W.Frag) (T : String) (r : V → List V → Hp → VK → Prop) (to : TE) : TE := fun σ H Q => to σ H fun x H1 => tyV K T x H1 ∧ r x [] H1 Q
def tBM (K : PySem.W.Frag) (T : String) (r : V → List V → Hp → VK → Prop) (to : TE) (t : TA) : TE := fun σ H Q => to σ H fun x H1 => tyV K T x H1 ∧ t σ H1 fun xs H2 => r x xs H2 Q
variable {o e : Expr} {es : List Expr} {to : TE} {t : TA} {name : Str} {apos cpos : Pos} {T id : String} {r : V → List V → Hp → VK → Prop}
theorem pe_bm0 (pa : PlainAttrs T) (slot : Slot T name id) (hty : typeOf (.builtin id) = pure (.type "method_descriptor")) (hm : MtR X id r) (ho : PE X o to)
    (hbase : attributeBase o name X.env (eval o X.env) = eval o X.env := by rfl) (hline : (apos.endLine == cpos.line) = true := by rfl) : PE X (.Call (.Attribute o name apos) [] [] cpos) (tBM0 X.K T r to) := by
  intro pins s σ H Q I h
  refine wpAny_Call_method0_late hbase hline (thn (ho pins s σ H _ I h) fun v s1 ⟨x, H1, I1, r1, ty, q1⟩ => ?_)
  obtain ⟨h1, h2⟩ := tyV_is I1 r1 ty
  exact ⟨T, id, pa, slot, hty, h1, h2, Calls.callWith_builtin rfl (PySem.evalArgs_none (hm pins s1 σ H1 x [] v [] Q I1 r1 .nil q1))⟩
theorem pe_bm (pa : PlainAttrs T) (slot : Slot T name id) (hty : typeOf (.builtin id) = pure (.type "method_descriptor")) (hm : MtR X id r) (ho : PE X o to) (ha : PA X (e :: es) t)
    (hbase : attributeBase o name X.env (eval o X.env) = eval o X.env := by rfl)
    (hfew : ((backTo cpos (starEach (e :: es) X.env)).all (fun x => !x.1) && (backToKw cpos (keywordEach [] X.env)).all (fun x => x.1.isSome)
      && decide ((e :: es).length + ([] : List Keyword).length + (if ([] : List Keyword).isEmpty then 0 else 1) < 30)) = true := by rfl)
    (hline : (apos.endLine == cpos.line) = true := by rfl) (hs : starEach (e :: es) X.env = (false, eval e X.env) :: starEach es X.env := by rfl) (hplain : (backTo cpos (starEach es X.env)).any (·.1) = false := by rfl) :
    PE X (.Call (.Attribute o name apos) (e :: es) [] cpos) (tBM X.K T r to t) := by
  intro pins s σ H Q I h
  refine wpAny_Call_method_late hbase hfew hline rfl (thn (ho pins s σ H _ I h) fun v s1 ⟨x, H1, I1, r1, ty, q1⟩ => ?_)
  obtain ⟨h1, h2⟩ := tyV_is I1 r1 ty
  refine ⟨T, id, pa, slot, hty, h1, h2, ?_⟩
  have hA := ha cpos pins s1 σ H1 _ I1 q1
  rw [hs] at hA ⊢
  refine Calls.callWith_builtin (by show (false || (backTo cpos (starEach es X.env)).any (·.1)) = false; rw [hplain] <;> rfl) (Calls.evalArgs_plain ?_)
  exact thn hA fun us s2 ⟨vs, H2, I2, r2, q2⟩ => hm pins s2 σ H2 x vs v us Q I2 r1 r2 q2

end
end L2

namespace L2
open PySem PySem.Spec PyProof.Rows

def MtM (X : Cx) (id : String) (r : V → List V → Hp → VK → Prop) : Prop :=
  ∀ (pins : List (Addr × Obj)) (s : Shared) (σ : St) (H : Hp) (x : V) (xs : List V) (v : Value) (us : List Value) (Q : VK), Inv X pins σ H s → RelV x v → Vals xs us → r x xs H Q →
    wpAny (model X.prog X.w) X.A (call (.builtin id) (v :: us)) (EP X pins σ Q) X.xe s


theorem Vals.one : ∀ {x : V} {us : List Value}, Vals [x] us → ∃ u, us = [u] ∧ RelV x u
  | _, _, .cons r .nil => ⟨_, rfl, r⟩
theorem Vals.zero : ∀ {us : List Value}, Vals [] us → us = []
  | _, .nil => rfl
theorem Vals.dropLast {xs : List V} {us : List Value} (h : Vals xs us) : Vals xs.dropLast us.dropLast := by
  induction h with
  | nil => exact .nil
  | cons r t ih =>
    cases t with
    | nil => exact .nil
    | cons q t' => exact .cons r ih
theorem Vals.rep {xs : List V} {us : List Value} (h : Vals xs us) : ∀ k : Nat, Vals (List.replicate k xs).flatten (List.replicate k us).flatten
  | 0 => .nil
  | k + 1 => by
    rw [List.replicate_succ, List.replicate_succ, List.flatten_cons, List.flatten_cons]
    exact Vals.append h (Vals.rep h k)
theorem erase_last {α : Type} (l : List α) : l.eraseIdx (l.length - 1) = l.dropLast := by
  induction l with
  | nil => rfl
  | cons a r ih =>
    cases r with
    | nil => rfl
    | cons b r =>
      have e : (a :: b :: r).length - 1 = ((b :: r).length - 1) + 1 := by
        have h1 : (a :: b :: r).length = r.length + 2 := rfl
        have h2 : (b :: r).length = r.length + 1 := rfl
        omega
      rw [e, List.eraseIdx_cons_succ, ih]
      all_goals rfl
theorem foldl_rep (its : List Value) : ∀ (k : Nat) (acc : List Value),
    List.foldl (fun x1 x2 => x1 ++ x2) acc.toArray (List.replicate k its.toArray) = (acc ++ (List.replicate k its).flatten).toArray
  | 0, acc => by simp
  | k + 1, acc => by
    have e : acc.toArray ++ its.toArray = (acc ++ its).toArray := by simp
    have e2 : (acc ++ its) ++ (List.replicate k its).flatten = acc ++ (List.replicate (k + 1) its).flatten := by
      rw [List.replicate_succ, List.flatten_cons, List.append_assoc]
    rw [← e2, ← foldl_rep its k (acc ++ its), ← e, List.replicate_succ, List.foldl_cons]

section
variable {X : Cx} {pins : List (Addr × Obj)} {σ : St} {H : Hp} {s : Shared} {l b : Addr} {xs ys zs : List V}


theorem Inv.lset {its its' : List Value} {n : Nat} {f : Array Value → Array Value} {t' : Nat} (I : Inv X pins σ H s) (hH : H l = some (.lst xs))
    (e : s.heap.get? l = some { cls := .type "list", data := .seq its.toArray n }) (hf : f its.toArray = its'.toArray) (hv : Vals ys its') (hz : ys.length ≤ sizeLine) :
    Inv X pins σ (upd H l (.lst ys)) { s with heap := s.heap.update l (Obj.mapSeq f), toks := t' } := by
  have q := PySem.IsL.update e f
  rw [hf] at q
  refine I.write (x := l) (e := l) (by rw [hH]; exact trivial) (.inl rfl) (fun b' u hb hu => (Heap.get?_update_other s.heap (Obj.mapSeq f) (Ne.symm hb)).trans hu) ⟨_, q⟩ ?_
  exact ⟨hz, its', _, hv, q⟩
theorem Inv.lnew {its : List Value} {t' : Nat} (I : Inv X pins σ H s) (hv : Vals ys its) (hz : ys.length ≤ sizeLine) :
    Inv X pins σ (upd H s.heap.objs.size (.lst ys)) { s with heap := s.heap.push { cls := .type "list", data := .seq its.toArray }, toks := t' } :=
  I.laid (fun _ _ q => Heap.get?_push_of_some _ q) (Nat.le_refl _) ⟨hz, its, 0, hv, Heap.get?_push_size _ rfl⟩
theorem Inv.fresh (I : Inv X pins σ H s) : H s.heap.objs.size = none := I.hok.fresh (Nat.le_refl _)
theorem Inv.lstM (I : Inv X pins σ H s) (hH : H l = some (.lst xs)) : xs.length ≤ sizeLine ∧ ∃ (its : List Value) (n : Nat), Vals xs its ∧ xs.length = its.length ∧ s.heap.get? l = some { cls := .type "list", data := .seq its.toArray n } := by
  obtain ⟨z, its, n, r, e⟩ := I.hok l _ hH
  exact ⟨z, its, n, r, r.length, e⟩

theorem notLongL {n : Nat} (h : n ≤ sizeLine) : Builtin.List.listTooLong n = false := by
  unfold Builtin.List.listTooLong
  exact decide_eq_false (by omega)
end

section
variable {X : Cx}


def rAppend : V → List V → Hp → VK → Prop := fun x vs H Q => ∃ l xs y, x = .ref l ∧ vs = [y] ∧ H l = some (.lst xs) ∧ xs.length < sizeLine ∧ Q .non (upd H l (.lst (xs ++ [y])))
theorem mt_append : MtM X "list.append" rAppend := by
  intro pins s σ H x vs v us Q I rx rv h
  obtain ⟨l, xs, y, rfl, rfl, hH, hz, q⟩ := h
  cases rx
  obtain ⟨u, rfl, ru⟩ := rv.one
  obtain ⟨z, its, n, r, hl, e⟩ := I.lstM hH
  refine call_meets F.slot_list_append ⟨_, e, rfl⟩ F.entry_list_append (F.args_list_append_2 _ _) (PySem.list_append l its.toArray n u (by rw [List.size_toArray]; omega)) ⟨e, ?_⟩
  refine ⟨.non, _, I.lset (its' := its ++ [u]) hH e (by simp) (r.append (.cons ru .nil)) ?_, rfl, q⟩
  rw [List.length_append, List.length_singleton]
  omega

def rExtend : V → List V → Hp → VK → Prop := fun x vs H Q => ∃ l b xs zs, x = .ref l ∧ vs = [.ref b] ∧ H l = some (.lst xs) ∧ H b = some (.lst zs) ∧ xs.length + zs.length ≤ sizeLine ∧ Q .non (upd H l (.lst (xs ++ zs)))
theorem mt_extend : MtM X "list.extend" rExtend := by
  intro pins s σ H x vs v us Q I rx rv h
  obtain ⟨l, b, xs, zs, rfl, rfl, hH, hB, hz, q⟩ := h
  cases rx
  obtain ⟨u, rfl, ru⟩ := rv.one
  cases ru
  obtain ⟨z, its, n, r, hl, e⟩ := I.lstM hH
  obtain ⟨z2, its2, n2, r2, hl2, e2⟩ := I.lstM hB
  have hsz : its.toArray.size + its2.toArray.size ≤ sizeLine := by rw [List.size_toArray, List.size_toArray]; omega
  have hlong : ¬ (!its.toArray.isEmpty && Builtin.List.listTooLong (its.toArray.size + its2.toArray.size)) = true := by
    rw [notLongL hsz, Bool.and_false]
    exact Bool.false_ne_true
  refine call_meets F.slot_list_extend ⟨_, e, rfl⟩ F.entry_list_extend (F.args_list_extend_2 _ _)
    (AutoSeq1.list_extend_list_list_0 l its.toArray n b its2.toArray n2 hlong (by rw [List.size_toArray]; omega) (by omega)) ⟨e, e2, ?_⟩
  refine ⟨.non, _, I.lset (its' := its ++ its2) hH e (by simp) (r.append r2) ?_, rfl, q⟩
  rw [List.length_append]
  omega

def rPop : V → List V → Hp → VK → Prop := fun x vs H Q => ∃ l xs y, x = .ref l ∧ vs = [] ∧ H l = some (.lst xs) ∧ xs[xs.length - 1]? = some y ∧ Q y (upd H l (.lst xs.dropLast))
theorem mt_pop : MtM X "list.pop" rPop := by
  intro pins s σ H x vs v us Q I rx rv h
  obtain ⟨l, xs, y, rfl, rfl, hH, hy, q⟩ := h
  cases rx
  have hus := rv.zero
  subst hus
  obtain ⟨z, its, n, r, hl, e⟩ := I.lstM hH
  obtain ⟨u, hu, ru⟩ := r.get hy
  have hy' : its.toArray[its.toArray.size - 1]? = some u := by
    show its.toArray[its.length - 1]? = some u
    rw [← Array.getElem?_toList, ← hl]
    exact hu
  refine call_meets F.slot_list_pop ⟨_, e, rfl⟩ F.entry_list_pop (F.args_list_pop_1 _) (MeetsSeq.list_pop_last l its.toArray n u hy' (by rw [List.size_toArray]; omega)) ⟨e, ?_⟩
  refine ⟨y, _, I.lset (its' := its.dropLast) hH e ?_ r.dropLast ?_, ru, q⟩
  · show its.toArray.eraseIdxIfInBounds (its.toArray.size - 1) = its.dropLast.toArray
    rw [List.size_toArray, List.eraseIdxIfInBounds_toArray, erase_last]
  · rw [List.length_dropLast]
    omega

def rPopAt : V → List V → Hp → VK → Prop := fun x vs H Q => ∃ l xs i k y, x = .ref l ∧ vs = [.int i] ∧ H l = some (.lst xs) ∧ -(2 ^ 63) ≤ i ∧ i < 2 ^ 63 ∧ seqIndex? i xs.length = some k ∧ xs[k]? = some y ∧ Q y (upd H l (.lst (xs.eraseIdx k)))
def rReverse : V → List V → Hp → VK → Prop := fun x vs H Q => ∃ l xs, x = .ref l ∧ vs = [] ∧ H l = some (.lst xs) ∧ Q .non (upd H l (.lst xs.reverse))
def rClear : V → List V → Hp → VK → Prop := fun x vs H Q => ∃ l xs, x = .ref l ∧ vs = [] ∧ H l = some (.lst xs) ∧ Q .non (upd H l (.lst []))
def rCat : R2 := fun x y H Q => ∃ l b xs zs, x = .ref l ∧ y = .ref b ∧ H l = some (.lst xs) ∧ H b = some (.lst zs) ∧ xs.length + zs.length ≤ sizeLine ∧ ∀ p, H p = none → Q (.ref p) (upd H p (.lst (xs ++ zs)))
theorem op_cat : OpR X (binaryOp .Add) rCat := by
  intro pins s σ H x y v u Q I rx ry h
  obtain ⟨l, b, xs, zs, rfl, rfl, hH, hB, hz, q⟩ := h
  cases rx
  cases ry
  obtain ⟨z, its, n, r, hl, e⟩ := I.lstM hH
  obtain ⟨z2, its2, n2, r2, hl2, e2⟩ := I.lstM hB
  refine PySem.P.add_list e e2 ?_ (by rw [List.size_toArray, List.size_toArray]; omega)
  have ea : its.toArray ++ its2.toArray = (its ++ its2).toArray := by simp
  rw [ea]
  exact ⟨.ref _, _, I.lnew (t' := s.toks) (r.append r2) (by rw [List.length_append]; omega), rfl, q _ I.fresh⟩

def rRep : R2 := fun x y H Q => ∃ l k xs, x = .ref l ∧ y = .int k ∧ H l = some (.lst xs) ∧ -(2 ^ 63) ≤ k ∧ k < 2 ^ 63 ∧ xs.length * k.toNat ≤ sizeLine ∧
  ∀ p, H p = none → Q (.ref p) (upd H p (.lst (List.replicate k.toNat xs).flatten))
theorem len_rep {α : Type} (xs : List α) (k : Nat) : (List.replicate k xs).flatten.length = k * xs.length := by
  induction k with
  | zero => simp
  | succ k ih => rw [List.replicate_succ, List.flatten_cons, List.length_append, ih, Nat.succ_mul, Nat.add_comm]
theorem op_rep : OpR X (binaryOp .Mult) rRep := by
  intro pins s σ H x y v u Q I rx ry h
  obtain ⟨l, k, xs, rfl, rfl, hH, h1, h2, hz, q⟩ := h
  cases rx
  obtain ⟨t, rfl⟩ := ry
  obtain ⟨z, its, n, r, hl, e⟩ := I.lstM hH
  have hlen : its.toArray.size * k.toNat ≤ sizeLine := by rw [List.size_toArray, ← hl]; exact hz
  have hcap : ¬ its.toArray.size * k.toNat > (2 ^ 63 - 1) / 8 := by
    have : (sizeLine : Nat) ≤ (2 ^ 63 - 1) / 8 := by decide
    omega
  have hfit : ¬ (!Builtin.List.listFitsIndex k) = true := by
    rw [fitsIndex_both h1 h2]
    exact Bool.false_ne_true
  have hlong : ¬ Builtin.List.listTooLong (its.toArray.size * k.toNat) = true := by
    rw [notLongL hlen]
    exact Bool.false_ne_true
  have hnew : List.foldl (fun x1 x2 => x1 ++ x2) #[] (List.replicate (if its.toArray.isEmpty = true then 0 else k.toNat) its.toArray) = (List.replicate k.toNat its).flatten.toArray := by
    have f0 : ∀ m : Nat, List.foldl (fun x1 x2 => x1 ++ x2) #[] (List.replicate m its.toArray) = (List.replicate m its).flatten.toArray := fun m => by
      have := foldl_rep its m []
      rw [List.nil_append] at this
      exact this
    rw [f0]
    cases its with
    | nil => simp
    | cons a r' => rw [if_neg (by simp)]
  refine wpAny_binaryOp_repeat_ref (T := "list") (U := "int") (by decide) ⟨_, e, rfl⟩ (fun s' => typeIs_int s' k t) noFill_list_mul F.fills_int_mul F.slot_int_rmul repeat_list F.slot_int_index.lookup
    (call_meets F.slot_int_rmul (typeIs_int s k t) F.entry_int_rmul (F.args_int_rmul_2 _ _) (int___rmul___int_list k t l its.toArray n)
      ⟨e, rfl, ⟨_, e, rfl⟩, call_meets F.slot_list_mul ⟨_, e, rfl⟩ F.entry_list_mul (F.args_list_mul_2 _ _) (AutoListH.list___mul___list_int_3 l its.toArray n k t hfit hcap hlong) ⟨e, ?_⟩⟩)
  rw [hnew]
  exact ⟨.ref _, _, I.lnew (t' := s.toks) (r.rep k.toNat) (by rw [len_rep, Nat.mul_comm]; exact hz), rfl, q _ I.fresh⟩


end


section
variable {prog : Program} {w : World} {A : Around} {E : Value → Shared → Prop} {s : Shared}
set_option maxRecDepth 100000 in

end

section
variable {X : Cx}

end
end L2

namespace L2
open PySem PySem.Spec PyProof.Rows

theorem Vals.ints : ∀ {ns : List Int} {us : List Value}, Vals (ns.map V.int) us → IntsAre us ns
  | [], us, h => by
    rw [List.map_nil] at h
    cases h
    exact IntsAre.nil
  | n :: ns, us, h => by
    rw [List.map_cons] at h
    cases h with
    | cons r t =>
      obtain ⟨k, rfl⟩ := r
      exact IntsAre.cons n k (Vals.ints t)
theorem vals_of_ints : ∀ {us : List Value} {ns : List Int}, IntsAre us ns → Vals (ns.map V.int) us
  | _, _, .nil => by rw [List.map_nil]; exact Paired.nil
  | _, _, .cons n t h => by rw [List.map_cons]; exact Paired.cons (show RelV (V.int n) (Value.int n t) from ⟨t, rfl⟩) (vals_of_ints h)
theorem Vals.ref1 {a : Addr} {us : List Value} (r : Vals [V.ref a] us) : us = [Value.ref a] := by
  cases r with
  | cons r t =>
    cases t
    cases r
    rfl
section
variable {prog : Program} {w : World} {A : Around} {E : Value → Shared → Prop} {s : Shared} {l : Addr} {its : List Value} {ns : List Int} {Q : Value → Shared → Prop}
theorem sum_raw (hh : A.handled = none) (hl : s.heap.IsList l its.toArray) (hi : IntsAre its ns)
    (h : ∀ h' tk t', (∀ b o, s.heap.get? b = some o → h'.get? b = some o) → Q (.int ns.sum t') { s with heap := h', toks := tk }) : wpAny (model prog w) A (call (.builtin "sum") [.ref l]) Q E s := by
  obtain ⟨xs, e⟩ := hi.allInts.items
  have hn : numsOf (intItems xs).toList = ns := by rw [← e]; exact hi.numsOf
  rw [nums_intItems] at hn
  rw [e] at hl
  refine PySem.sum_intListG hh hl fun h' tk t' hk => ?_
  have := h h' tk t' hk
  rw [preSum_eq, List.take_of_length_le (by simp), hn]; exact this
end


section
variable {X : Cx}

def rSum (K : PySem.W.Frag) : List V → Hp → VK → Prop := fun vs H Q => ∃ (a : Addr) (ns : List Int), vs = [V.ref a] ∧ SqL K H a (ns.map V.int) ∧ Q (.int ns.sum) H

def rMax (K : PySem.W.Frag) : List V → Hp → VK → Prop := fun vs H Q => ∃ (a : Addr) (ns : List Int), vs = [V.ref a] ∧ SqL K H a (ns.map V.int) ∧ 0 < ns.length ∧ ∀ m, m ∈ ns → (∀ y, y ∈ ns → y ≤ m) → Q (.int m) H
def rMin (K : PySem.W.Frag) : List V → Hp → VK → Prop := fun vs H Q => ∃ (a : Addr) (ns : List Int), vs = [V.ref a] ∧ SqL K H a (ns.map V.int) ∧ 0 < ns.length ∧ ∀ m, m ∈ ns → (∀ y, y ∈ ns → m ≤ y) → Q (.int m) H
theorem cr_sum (hc : X.calm = true) : CallR X (.builtin "sum") (rSum X.K) := by
  intro pins s σ H vs us Q I r h
  obtain ⟨a, ns, rfl, hs, q⟩ := h
  obtain ⟨its, rv, hl, _⟩ := I.list hs
  rw [Vals.ref1 r]
  exact sum_raw (I.ok.hd hc) hl.isList rv.ints fun h' tk t' hk => ⟨.int _, H, I.kept hk, ⟨_, rfl⟩, q⟩
def rSorted (K : PySem.W.Frag) : List V → Hp → VK → Prop := fun vs H Q => ∃ (a : Addr) (ns : List Int), vs = [V.ref a] ∧ SqL K H a (ns.map V.int) ∧ ns.length < 64 ∧
  ∀ (ns' : List Int) (p : Addr), ns'.Perm ns → ns'.Pairwise (· ≤ ·) → H p = none → Q (.ref p) (upd H p (.lst (ns'.map V.int)))
def rSortedS (K : PySem.W.Frag) : List V → Hp → VK → Prop := fun vs H Q => ∃ (a : Addr) (xs : List Str), vs = [V.ref a] ∧ SqL K H a (xs.map V.str) ∧ xs.length < 64 ∧
  ∀ (ys : List Str) (p : Addr), ys.Perm xs → sortedS ys = true → H p = none → Q (.ref p) (upd H p (.lst (ys.map V.str)))
def rSort : V → List V → Hp → VK → Prop := fun x xs H Q => ∃ (a : Addr) (ns : List Int), x = V.ref a ∧ xs = [] ∧ H a = some (.lst (ns.map V.int)) ∧ ns.length < 64 ∧
  ∀ ns' : List Int, ns'.Perm ns → ns'.Pairwise (· ≤ ·) → Q .non (upd H a (.lst (ns'.map V.int)))
end


section
variable {X : Cx}
def rIndex (K : PySem.W.Frag) : V → List V → Hp → VK → Prop := fun x xs H Q => ∃ (a : Addr) (ys : List V) (y : V) (j : Nat) (z : V), x = V.ref a ∧ xs = [y] ∧ SqL K H a ys ∧ flatV y = true ∧ ys.all flatV = true ∧ ys[j]? = some z ∧ eqV z y = true ∧
  (∀ (m : Nat) (z' : V), m < j → ys[m]? = some z' → eqV z' y = false) ∧ Q (.int (j : Nat)) H
end


section
variable {X : Cx}
end


section
variable {X : Cx}
def rAny (K : PySem.W.Frag) : List V → Hp → VK → Prop := fun vs H Q => ∃ (a : Addr) (bs : List Bool), vs = [V.ref a] ∧ SqL K H a (bs.map V.bl) ∧ Q (.bl (bs.any id)) H
def rAll (K : PySem.W.Frag) : List V → Hp → VK → Prop := fun vs H Q => ∃ (a : Addr) (bs : List Bool), vs = [V.ref a] ∧ SqL K H a (bs.map V.bl) ∧ Q (.bl (bs.all id)) H
end


mutual
inductive Dp (K : PySem.W.Frag) (H : Hp) : V → PyData → Prop
  | non : Dp K H .non .none
  | bl (b : Bool) : Dp K H (.bl b) (.bool b)
  | int (i : Int) : Dp K H (.int i) (.int i)
  | str (x : Str) : Dp K H (.str x) (.str x)
  | lst {a : Addr} {xs : List V} {ds : List PyData} : SqL K H a xs → DpAll K H xs ds → Dp K H (.ref a) (.list ds)
  | tup {a : Addr} {xs : List V} {ds : List PyData} : SqT K H a xs → DpAll K H xs ds → Dp K H (.ref a) (.tuple ds)
inductive DpAll (K : PySem.W.Frag) (H : Hp) : List V → List PyData → Prop
  | nil : DpAll K H [] []
  | cons {v : V} {vs : List V} {d : PyData} {ds : List PyData} : Dp K H v d → DpAll K H vs ds → DpAll K H (v :: vs) (d :: ds)
end
section
variable {X : Cx} {pins : List (Addr × Obj)} {σ : St} {H : Hp} {s : Shared}
mutual
theorem Dp.reads (I : Inv X pins σ H s) : ∀ (d : PyData) (v : V) (u : Value), Dp X.K H v d → RelV v u → ∃ as, Reads s.heap u d as
  | .none, _, _, h, r => by
    cases h
    cases r
    exact ⟨_, Reads.none⟩
  | .bool b, _, _, h, r => by
    cases h
    cases r
    exact ⟨_, Reads.bool b⟩
  | .int i, _, _, h, r => by
    cases h
    obtain ⟨t, rfl⟩ := r
    exact ⟨_, Reads.int i t⟩
  | .str x, _, _, h, r => by
    cases h
    obtain ⟨t, rfl⟩ := r
    exact ⟨_, Reads.str x t⟩
  | .list ds, _, _, h, r => by
    cases h with
    | lst hs ha =>
      cases r
      obtain ⟨its, rv, ⟨o, n, ho, hc, _, hd⟩, _⟩ := I.list hs
      obtain ⟨as, hr⟩ := Dp.readsAll I ds _ its ha rv
      exact ⟨_, Reads.list ho hc hd hr⟩
  | .tuple ds, _, _, h, r => by
    cases h with
    | tup hs ha =>
      cases r
      obtain ⟨its, rv, ⟨o, ho, hc, n, hd⟩, _⟩ := I.tuple hs
      obtain ⟨as, hr⟩ := Dp.readsAll I ds _ its ha rv
      exact ⟨_, Reads.tuple ho hc hd hr⟩
  | .dict _, _, _, h, _ => by cases h
theorem Dp.readsAll (I : Inv X pins σ H s) : ∀ (ds : List PyData) (vs : List V) (us : List Value), DpAll X.K H vs ds → Vals vs us → ∃ as, ReadsAll s.heap us ds as
  | [], _, _, h, r => by
    cases h
    cases r
    exact ⟨_, ReadsAll.nil⟩
  | d :: ds, _, _, h, r => by
    cases h with
    | cons h1 h2 =>
      cases r with
      | cons r1 r2 =>
        obtain ⟨as, q1⟩ := Dp.reads I d _ _ h1 r1
        obtain ⟨bs, q2⟩ := Dp.readsAll I ds _ _ h2 r2
        exact ⟨_, ReadsAll.cons q1 q2⟩
end
end
section
variable {X : Cx}
def rEqD (K : PySem.W.Frag) : R2 := fun x y H Q => ∃ d e, Dp K H x d ∧ Dp K H y e ∧ SeqAt.shaped d = true ∧ SeqAt.shaped e = true ∧ Q (.bl (PyData.eqv d e)) H
def rNeD (K : PySem.W.Frag) : R2 := fun x y H Q => ∃ d e, Dp K H x d ∧ Dp K H y e ∧ SeqAt.shaped d = true ∧ SeqAt.shaped e = true ∧ Q (.bl (!PyData.eqv d e)) H
end
end L2

namespace L2
open PySem PySem.Spec PyProof.Rows
abbrev CellAt (h : Heap) (c : Addr) (v : Option Value) : Prop := h.IsCell c v
def relS (scope sc : Scope) : Scope :=
  { scope with names := scope.names.map fun (n, k) => if (k == .free && sc.kind == .function && sc.names.lookup n == some .cell) then (n, .cell) else (n, k) }

def cloFrom (cells : List (Str × Addr)) : List (Str × NameKind) → List (Str × Addr) → List (Str × Addr)
  | [], acc => acc
  | (n, k) :: r, acc => if k == .free then cloFrom cells r ((n, (cells.lookup n).getD 0) :: acc) else cloFrom cells r acc

theorem closure_loop (env : Env) (f : Str × NameKind → List (Str × Addr) → Sem (ForInStep (List (Str × Addr))))
    (hf : ∀ n k c, f (n, k) c = if k == .free then (do let a ← cellOf env n; pure (.yield ((n, a) :: c))) else pure (.yield c)) :
    ∀ (names : List (Str × NameKind)) (acc : List (Str × Addr)), (∀ y ∈ names, y.2 = .free → ∃ c, env.cells.lookup y.1 = some c) → forIn names acc f = pure (cloFrom env.cells names acc)
  | [], acc, _ => by rw [List.forIn_nil]; rfl
  | (n, k) :: r, acc, h => by
    rw [List.forIn_cons, hf]
    have ih := fun acc => closure_loop env f hf r acc fun y hy => h y (List.mem_cons_of_mem _ hy)
    unfold cloFrom
    by_cases hk : (k == NameKind.free) = true
    · rw [if_pos hk, if_pos hk]
      obtain ⟨c, hc⟩ := h (n, k) List.mem_cons_self (by simpa using hk)
      have e : cellOf env n = pure c := by unfold cellOf; rw [hc]
      rw [e]
      have e2 : (env.cells.lookup n).getD 0 = c := by rw [hc]; rfl
      rw [e2]
      exact ih _
    · rw [if_neg hk, if_neg hk]
      exact ih _
theorem closure_ok {scope : Scope} {env : Env} (h : ∀ y ∈ scope.names, y.2 = .free → ∃ c, env.cells.lookup y.1 = some c) : closureFor scope env = pure (cloFrom env.cells scope.names []) := by
  simp only [closureFor]
  rw [closure_loop env _ (fun n k c => rfl) scope.names [] h]
  rfl

theorem mem_lookup {α : Type} : ∀ {l : List (Str × α)} {n : Str} {c : α}, (n, c) ∈ l → ∃ c', l.lookup n = some c'
  | (k, v) :: r, n, c, h => by
    rw [List.lookup_cons]
    cases hb : n == k with
    | true => exact ⟨_, rfl⟩
    | false =>
      rcases List.mem_cons.mp h with e | h
      · cases e; simp at hb
      · exact mem_lookup h

theorem cloFrom_mem {cells : List (Str × Addr)} : ∀ {names : List (Str × NameKind)} {acc : List (Str × Addr)} {n : Str} {c : Addr}, (n, c) ∈ cloFrom cells names acc → (n, c) ∈ acc ∨ ((n, .free) ∈ names ∧ c = (cells.lookup n).getD 0)
  | [], _, _, _, h => .inl h
  | (m, k) :: r, acc, n, c, h => by
    unfold cloFrom at h
    split at h
    · rename_i hk
      have hk : k = .free := by simpa using hk
      rcases cloFrom_mem h with h | ⟨h1, h2⟩
      · rcases List.mem_cons.mp h with e | h
        · cases e; exact .inr ⟨hk ▸ List.mem_cons_self, rfl⟩
        · exact .inl h
      · exact .inr ⟨List.mem_cons_of_mem _ h1, h2⟩
    · rcases cloFrom_mem h with h | ⟨h1, h2⟩
      · exact .inl h
      · exact .inr ⟨List.mem_cons_of_mem _ h1, h2⟩
theorem cloFrom_acc {cells : List (Str × Addr)} : ∀ {names : List (Str × NameKind)} {acc : List (Str × Addr)} {p : Str × Addr}, p ∈ acc → p ∈ cloFrom cells names acc
  | [], _, _, h => h
  | (m, k) :: r, acc, p, h => by
    unfold cloFrom
    split
    · exact cloFrom_acc (List.mem_cons_of_mem _ h)
    · exact cloFrom_acc h
theorem cloFrom_has {cells : List (Str × Addr)} : ∀ {names : List (Str × NameKind)} {acc : List (Str × Addr)} {n : Str}, (n, .free) ∈ names → (n, (cells.lookup n).getD 0) ∈ cloFrom cells names acc
  | (m, k) :: r, acc, n, h => by
    unfold cloFrom
    rcases List.mem_cons.mp h with e | h
    · cases e
      exact cloFrom_acc List.mem_cons_self
    · split
      · exact cloFrom_has h
      · exact cloFrom_has h

theorem cells_mem : ∀ {names : List (Str × NameKind)} {h : Heap} {acc : List (Str × Addr)} {x : Str} {c : Addr}, (x, c) ∈ cellsFrom h.objs.size names acc →
    (x, c) ∈ acc ∨ ((x, .cell) ∈ names ∧ h.objs.size ≤ c ∧ CellAt (pushCells h names) c none)
  | [], _, _, _, _, h => .inl h
  | (n, k) :: r, h, acc, x, c, hm => by
    unfold cellsFrom at hm
    unfold pushCells
    split at hm
    · rename_i hk
      rw [if_pos hk]
      have hk : k = .cell := by simpa using hk
      rw [← Heap.size_push h { cls := .type "cell", data := .cell none }] at hm
      rcases cells_mem hm with hm | ⟨h1, h2, h3⟩
      · rcases List.mem_cons.mp hm with e | hm
        · cases e
          exact .inr ⟨hk ▸ List.mem_cons_self, Nat.le_refl _, _, pushCells_keeps r _ _ _ (Heap.get?_push_size _ rfl), rfl⟩
        · exact .inl hm
      · rw [Heap.size_push] at h2
        exact .inr ⟨List.mem_cons_of_mem _ h1, Nat.le_of_succ_le h2, h3⟩
    · rename_i hk
      rw [if_neg hk]
      rcases cells_mem hm with hm | ⟨h1, h2, h3⟩
      · exact .inl hm
      · exact .inr ⟨List.mem_cons_of_mem _ h1, h2, h3⟩
theorem cells_acc : ∀ {names : List (Str × NameKind)} {n : Nat} {acc : List (Str × Addr)} {p : Str × Addr}, p ∈ acc → p ∈ cellsFrom n names acc
  | [], _, _, _, h => h
  | (m, k) :: r, n, acc, p, h => by
    unfold cellsFrom
    split
    · exact cells_acc (List.mem_cons_of_mem _ h)
    · exact cells_acc h
theorem cells_has : ∀ {names : List (Str × NameKind)} {n : Nat} {acc : List (Str × Addr)} {x : Str}, (x, .cell) ∈ names → ∃ c, (x, c) ∈ cellsFrom n names acc
  | (m, k) :: r, n, acc, x, h => by
    unfold cellsFrom
    rcases List.mem_cons.mp h with e | h
    · cases e
      exact ⟨n, cells_acc List.mem_cons_self⟩
    · split
      · exact cells_has h
      · exact cells_has h
theorem cells_inj : ∀ {names : List (Str × NameKind)} {h : Heap} {acc : List (Str × Addr)} {x y : Str} {c : Addr}, (∀ p ∈ acc, p.2 < h.objs.size) → (∀ x y c, (x, c) ∈ acc → (y, c) ∈ acc → x = y) →
    (x, c) ∈ cellsFrom h.objs.size names acc → (y, c) ∈ cellsFrom h.objs.size names acc → x = y
  | [], _, _, _, _, _, _, hi, h1, h2 => hi _ _ _ h1 h2
  | (n, k) :: r, h, acc, x, y, c, hl, hi, h1, h2 => by
    unfold cellsFrom at h1 h2
    split at h1
    · rename_i hk
      rw [if_pos hk] at h2
      rw [← Heap.size_push h { cls := .type "cell", data := .cell none }] at h1 h2
      refine cells_inj (h := h.push _) (fun p hp => ?_) (fun x y c a b => ?_) h1 h2
      · rw [Heap.size_push]
        rcases List.mem_cons.mp hp with rfl | hp
        · exact Nat.lt_succ_self _
        · exact Nat.lt_succ_of_lt (hl p hp)
      · rcases List.mem_cons.mp a with e | a <;> rcases List.mem_cons.mp b with e' | b
        · cases e; cases e'; rfl
        · cases e; exact absurd (hl _ b) (Nat.lt_irrefl _)
        · cases e'; exact absurd (hl _ a) (Nat.lt_irrefl _)
        · exact hi _ _ _ a b
    · rename_i hk
      rw [if_neg hk] at h2
      exact cells_inj hl hi h1 h2

theorem newEnv_comp {M : Model} {A : Around} {E : Value → Shared → Prop} {s : Shared} {scope : Scope} {globals : Addr} {closure : List (Str × Addr)} {qual : Str} {func : Option Addr} {code : Value} {around : Env} {builtins : Addr} {Q : Env → Shared → Prop}
    (h : Q (newEnv scope s.heap.objs.size globals (cellsFrom (s.heap.objs.size + 1) scope.names closure) qual func code (some around) builtins)
      { s with heap := pushCells (s.heap.push { cls := .type "dict", data := .dict #[] }) scope.names }) :
    wpAny M A (newFunctionEnv scope globals closure [] qual func code (some around) builtins) Q E s := by
  simp only [newFunctionEnv, Option.isSome_some, if_true]
  refine wpAny_bind (wpAny_alloc ?_)
  refine wpAny_bind (wpAny_layCells _ (fun n k c => rfl) scope.names closure _ _ ?_)
  rw [show ({ s with heap := s.heap.push { cls := .type "dict", data := .dict #[] } } : Shared).heap.objs.size = s.heap.objs.size + 1 from Heap.size_push ..]
  rw [List.forIn_nil]
  exact wpAny_bind (wpAny_pure (wpAny_pure h))


theorem lookup_relS {sc : Scope} : ∀ {names : List (Str × NameKind)} {x : Str} {k : NameKind},
    (names.map fun (n, k) => if (k == NameKind.free && sc.kind == .function && sc.names.lookup n == some .cell) then (n, NameKind.cell) else (n, k)).lookup x = some k →
    ∃ k', names.lookup x = some k' ∧ (k = k' ∨ (k' = .free ∧ k = .cell))
  | [], _, _, h => by simp at h
  | (n, k₀) :: r, x, k, h => by
    have ih := @lookup_relS sc r x k
    have h' : List.lookup x ((if (k₀ == NameKind.free && sc.kind == .function && sc.names.lookup n == some .cell) = true then (n, NameKind.cell) else (n, k₀)) :: (r.map _)) = some k := h
    cases hx : x == n with
    | true =>
      simp only [List.lookup_cons, hx]
      by_cases hc : (k₀ == NameKind.free && sc.kind == .function && sc.names.lookup n == some .cell) = true
      · rw [if_pos hc] at h'
        simp only [List.lookup_cons, hx] at h'
        cases h'
        simp only [Bool.and_eq_true, beq_iff_eq] at hc
        exact ⟨k₀, rfl, .inr ⟨hc.1.1, rfl⟩⟩
      · rw [if_neg hc] at h'
        simp only [List.lookup_cons, hx] at h'
        cases h'
        exact ⟨_, rfl, .inl rfl⟩
    | false =>
      simp only [List.lookup_cons, hx]
      by_cases hc : (k₀ == NameKind.free && sc.kind == .function && sc.names.lookup n == some .cell) = true
      · rw [if_pos hc] at h'
        simp only [List.lookup_cons, hx] at h'
        exact ih h'
      · rw [if_neg hc] at h'
        simp only [List.lookup_cons, hx] at h'
        exact ih h'
structure BlkOk (N : List Str) (sc scope : Scope) (own : List (Str × Nat)) : Prop where
  kind : scope.kind = .function
  uniq : ∀ y ∈ scope.names, scope.names.lookup y.1 = some y.2
  ix : ∀ p ∈ own, N[p.2]? = some p.1
  free : ∀ y ∈ scope.names, y.2 = .free → sc.names.lookup y.1 = some .cell ∨ sc.names.lookup y.1 = some .free
  own : ∀ y ∈ scope.names, y.2 = .local ∨ y.2 = .cell → y.1 ∈ own.map (·.1) ∨ y.1 ∉ N

def wipe (σ : St) : List Nat → St
  | [] => σ
  | v :: vs => (wipe σ vs).set v none
theorem wipe_length (σ : St) : ∀ vs : List Nat, (wipe σ vs).length = σ.length
  | [] => rfl
  | v :: vs => by unfold wipe; rw [List.length_set, wipe_length σ vs]
theorem wipe_some {σ : St} {i : Nat} {x : V} : ∀ {vs : List Nat}, (wipe σ vs)[i]? = some (some x) → σ[i]? = some (some x) ∧ i ∉ vs
  | [], h => ⟨h, by simp⟩
  | v :: vs, h => by
    unfold wipe at h
    by_cases hi : v = i
    · subst hi
      by_cases hv : v < (wipe σ vs).length
      · rw [List.getElem?_set_self hv] at h; cases h
      · rw [List.getElem?_eq_none (by simpa using hv)] at h; cases h
    · rw [List.getElem?_set_ne hi] at h
      obtain ⟨h1, h2⟩ := wipe_some h
      exact ⟨h1, by simp only [List.mem_cons, not_or]; exact ⟨fun e => hi e.symm, h2⟩⟩


abbrev Cx.blk (X : Cx) (s : Shared) (H : Hp) (scope : Scope) (cenv : Env) (fp : List Addr) : Cx := { X with s_0 := s, H_0 := H, env := cenv, outer := X.stack, ex := fp, fn := fun x => scope.names.lookup x == some .cell, pn := [], xe := fun _ _ => False }
section
variable {X : Cx} {pins : List (Addr × Obj)} {σ : St} {H : Hp} {s : Shared}
theorem block_start {scope : Scope} {own : List (Str × Nat)} {fp : List Addr} (I : Inv X pins σ H s) (ok : BlkOk X.N X.env.scope scope own) (hN : X.N.Nodup) (hfp : ∀ b ∈ fp, FpOk X pins H b ∧ b < s.heap.objs.size) :
    Inv (X.blk s H scope (compEnvC scope (cellsFrom (s.heap.objs.size + 1) scope.names (cloFrom X.env.cells scope.names [])) s.heap.objs.size X.env) fp) [] (wipe σ (own.map (·.2))) H { s with heap := pushCells (s.heap.push { cls := .type "dict", data := .dict #[] }) scope.names } := by
  have hfree : ∀ y ∈ scope.names, y.2 = .free → ∃ c, X.env.cells.lookup y.1 = some c := fun y hy e => by
    rcases ok.free y hy e with k | k
    · exact I.ok.has _ (.inl k)
    · exact I.ok.has _ (.inr k)
  generalize hcenv : compEnvC scope (cellsFrom (s.heap.objs.size + 1) scope.names (cloFrom X.env.cells scope.names [])) s.heap.objs.size X.env = cenv
  have kp : ∀ b o, s.heap.get? b = some o → (pushCells (s.heap.push { cls := .type "dict", data := .dict #[] }) scope.names).get? b = some o := fun b o e => pushCells_keeps _ _ _ _ (Heap.get?_push_of_some _ e)
  have hL : cenv.locals = s.heap.objs.size := by rw [← hcenv]; rfl
  have hcl : cenv.cells = cellsFrom (s.heap.objs.size + 1) scope.names (cloFrom X.env.cells scope.names []) := by rw [← hcenv]; rfl
  have hsc : cenv.scope = relS scope X.env.scope := by rw [← hcenv]; rfl
  rw [← Heap.size_push s.heap { cls := .type "dict", data := .dict #[] }] at hcl
  have cm : ∀ {y c}, (y, c) ∈ cloFrom X.env.cells scope.names [] → X.env.cells.lookup y = some c ∧ c < s.heap.objs.size := fun {y c} hm => by
    rcases cloFrom_mem hm with hm | ⟨h1, rfl⟩
    · cases hm
    · obtain ⟨c, hc⟩ := hfree _ h1 rfl
      rw [hc]
      obtain ⟨w, z⟩ := I.cell _ _ hc
      exact ⟨rfl, z.lt⟩
  have mem : ∀ {y c}, cenv.cells.lookup y = some c → (X.env.cells.lookup y = some c ∧ c < s.heap.objs.size) ∨ (s.heap.objs.size + 1 ≤ c ∧ CellAt (pushCells (s.heap.push { cls := .type "dict", data := .dict #[] }) scope.names) c none) := fun {y c} e => by
    rw [hcl] at e
    rcases cells_mem (PySem.mem_of_lookup e) with hm | ⟨_, h2, h3⟩
    · exact .inl (cm hm)
    · rw [Heap.size_push] at h2; exact .inr ⟨h2, h3⟩
  have look : ∀ {y}, scope.names.lookup y = some .free → ∃ c, cenv.cells.lookup y = some c ∧ X.env.cells.lookup y = some c := fun {y} hl => by
    have hy : (y, NameKind.free) ∈ scope.names := PySem.mem_of_lookup hl
    obtain ⟨c', e'⟩ := mem_lookup (cells_acc (names := scope.names) (n := (s.heap.push { cls := .type "dict", data := .dict #[] }).objs.size) (cloFrom_has (cells := X.env.cells) (acc := []) hy))
    rw [← hcl] at e'
    refine ⟨c', e', ?_⟩
    rw [hcl] at e'
    rcases cells_mem (PySem.mem_of_lookup e') with hm | ⟨h1, _, _⟩
    · exact (cm hm).1
    · have := ok.uniq _ h1
      rw [hl] at this; cases this
  have okB : (X.blk s H scope cenv fp).Ok := by
    refine ⟨I.ok.mod, by show cenv.scope.kind = _; rw [hsc]; exact ok.kind, by show cenv.globals = _; rw [← hcenv]; exact I.ok.glob, by show cenv.builtins = _; rw [← hcenv]; exact I.ok.blt, by show s.heap.objs.size ≤ cenv.locals; rw [hL]; exact Nat.le_refl _,
      fun y z c e1 e2 => ?_, fun y hy => ?_, fun y c z e => ?_, I.ok.hd, I.ok.frames, .inl rfl, fun b hb => ⟨?_, fun y c e z => ?_⟩, I.bs, Nat.le_trans I.ok.bsz I.sz, fun b o e hb => ?_, fun b hb z => ?_, I.stack, I.stkFree⟩
    · have e1 : cenv.cells.lookup y = some c := e1
      have e2 : cenv.cells.lookup z = some c := e2
      rw [hcl] at e1 e2
      refine cells_inj (fun p hp => ?_) (fun y z c a b => I.ok.inj y z c (cm a).1 (cm b).1) (PySem.mem_of_lookup e1) (PySem.mem_of_lookup e2)
      rw [Heap.size_push]
      exact Nat.lt_succ_of_lt (cm (y := p.1) (c := p.2) hp).2
    · show ∃ c, cenv.cells.lookup y = some c
      have key : ∀ k, cenv.kindOf y = some k → (k = .cell ∨ k = .free) → ∃ c, cenv.cells.lookup y = some c := fun k hk hk' => by
        unfold Env.kindOf at hk
        rw [hsc] at hk
        obtain ⟨k', e, r⟩ := lookup_relS hk
        have : k' = .cell ∨ k' = .free := by
          rcases r with rfl | ⟨rfl, _⟩
          · exact hk'
          · exact .inr rfl
        rcases this with rfl | rfl
        · obtain ⟨c, hm⟩ := cells_has (n := (s.heap.push { cls := .type "dict", data := .dict #[] }).objs.size) (acc := cloFrom X.env.cells scope.names []) (PySem.mem_of_lookup e)
          obtain ⟨c', e'⟩ := mem_lookup hm
          exact ⟨c', by rw [hcl]; exact e'⟩
        · obtain ⟨c, h1, _⟩ := look e
          exact ⟨c, h1⟩
      rcases hy with hy | hy
      · exact key _ hy (.inl rfl)
      · exact key _ hy (.inr rfl)
    · have z : (scope.names.lookup y == some NameKind.cell) = true := z
      have z : scope.names.lookup y = some .cell := by simpa using z
      have e : cenv.cells.lookup y = some c := e
      rw [hcl] at e
      rcases cells_mem (PySem.mem_of_lookup e) with hm | ⟨_, h2, _⟩
      · rcases cloFrom_mem hm with hm | ⟨h1, _⟩
        · cases hm
        · have q := ok.uniq _ h1
          rw [z] at q; cases q
      · rw [Heap.size_push] at h2
        exact Nat.le_of_succ_le h2
    · show b ≠ cenv.locals
      rw [hL]; exact Nat.ne_of_lt (hfp b hb).2
    · have e : cenv.cells.lookup y = some c := e
      rcases mem e with ⟨h1, _⟩ | ⟨h1, _⟩
      · exact (hfp b hb).1.2.2.2.2.1 y c h1 z
      · have h2 : s.heap.objs.size + 1 ≤ b := by rw [← z]; exact h1
        exact absurd (Nat.lt_of_lt_of_le (hfp b hb).2 (Nat.le_of_succ_le h2)) (Nat.lt_irrefl _)
    · rcases (hfp b hb).1.2.2.2.1 with z | z
      · exact I.ok.noex b o e z
      · exact absurd (Nat.lt_of_lt_of_le (Heap.lt_size e) (Nat.le_trans I.ok.bsz z)) (Nat.lt_irrefl _)
    · rcases List.mem_cons.mp (I.stkSub b z) with z | z
      · exact (hfp b hb).1.2.1 z
      · exact (hfp b hb).1.2.2.1 z
  refine ⟨okB, rfl, I.bare, Un.kept kp, ⟨fun _ => none, ?_, fun i y av e1 e2 e3 => ?_⟩, fun y c e => ?_, ?_, fun y c e => ?_, fun p hp => ?_, I.hok.kept kp, by rw [wipe_length]; exact I.len⟩
  · show Heap.Ns _ cenv.locals _
    rw [hL]
    exact Heap.Ns.keeps (Heap.Ns.new ..) fun b o e => pushCells_keeps _ _ _ _ e
  · obtain ⟨e2, hne⟩ := wipe_some e2
    have hfr : scope.names.lookup y = some .free ∧ (cenv.kindOf y = some .cell ∨ cenv.kindOf y = some .free) := by
      have key : ∀ k, cenv.scope.names.lookup y = some k → k = .local ∨ k = .cell ∨ k = .free → scope.names.lookup y = some .free ∧ (cenv.kindOf y = some .cell ∨ cenv.kindOf y = some .free) := fun k hk hk' => by
        have hk0 := hk
        rw [hsc] at hk
        obtain ⟨k', e, r⟩ := lookup_relS hk
        have no : ¬ (k' = .local ∨ k' = .cell) := fun hh => by
          rcases ok.own _ (PySem.mem_of_lookup e) hh with e' | e'
          · obtain ⟨p, hp, hpy⟩ := List.mem_map.mp e'
            have e3 := ok.ix p hp
            have : p.1 = y := hpy
            rw [this] at e3
            exact hne (List.mem_map.mpr ⟨p, hp, nodup_ix hN e3 e1⟩)
          · exact e' (List.mem_of_getElem? e1)
        rcases r with rfl | ⟨rfl, rfl⟩
        · rcases hk' with rfl | rfl | rfl
          · exact absurd (.inl rfl) no
          · exact absurd (.inr rfl) no
          · exact ⟨e, .inr hk0⟩
        · exact ⟨e, .inl hk0⟩
      have e3 : Vis cenv.scope y := e3
      rcases e3 with e3 | e3 | e3
      · exact key _ e3 (.inl rfl)
      · exact key _ e3 (.inr (.inl rfl))
      · exact key _ e3 (.inr (.inr rfl))
    obtain ⟨m, hn, hl⟩ := I.loc
    have hvis : Vis X.env.scope y := (ok.free _ (PySem.mem_of_lookup hfr.1) rfl).elim (fun k => .inr (.inl k)) (fun k => .inr (.inr k))
    obtain ⟨w, r, q⟩ := hl i y av e1 e2 hvis
    refine ⟨w, r, .inr ⟨hfr.2, ?_⟩⟩
    obtain ⟨c, h1, h2⟩ := look hfr.1
    rcases q with ⟨k, _⟩ | ⟨_, c', e', z⟩
    · have k : X.env.scope.names.lookup y = some .local := k
      rcases ok.free _ (PySem.mem_of_lookup hfr.1) rfl with k' | k' <;> rw [show X.env.scope.names.lookup y = _ from k'] at k <;> cases k
    · rw [h2] at e'; cases e'
      exact ⟨c, h1, z.keeps kp⟩
  · have e : cenv.cells.lookup y = some c := e
    rcases mem e with ⟨h1, _⟩ | ⟨_, z⟩
    · obtain ⟨w, z⟩ := I.cell y c h1
      exact ⟨w, z.keeps kp⟩
    · exact ⟨_, z⟩
  · show H cenv.locals = none
    rw [hL]; exact I.hok.fresh (Nat.le_refl _)
  · have e : cenv.cells.lookup y = some c := e
    rcases mem e with ⟨h1, _⟩ | ⟨h1, _⟩
    · exact I.freeC y c h1
    · exact I.hok.fresh (Nat.le_of_succ_le h1)
  · exact absurd (show p ∈ ([] : List (Addr × Obj)) ++ [] from hp) (by simp)


theorem app_ok {E : Value → Shared → Prop} {D : Addr} {xs : List V} {y : V} {v : Value} {Q : Value → Shared → Prop} (I : Inv X pins σ H s) (hD : H D = some (.lst xs)) (hz : xs.length < sizeLine) (r : RelV y v)
    (h : ∀ s', Inv X pins σ (upd H D (.lst (xs ++ [y]))) s' → Q .none s') : wpAny (model X.prog X.w) X.A (call (.builtin "list.append") [.ref D, v]) Q E s := by
  obtain ⟨hz', its, n, ri, e⟩ := I.hok D _ hD
  have hl := ri.length
  refine append_at (hsz := by rw [List.size_toArray]; omega) e fun h' sb ho' => ?_
  refine h { s with heap := h' } (I.write (t' := s.toks) (by rw [hD]; trivial) (.inl rfl) (fun b u hb q => (sb.2 b hb).trans q) ⟨_, ho'⟩ ⟨by rw [List.length_append]; exact hz, its ++ [v], n + 1, ri.append (.cons r .nil), ?_⟩)
  rw [ho']
  simp


def PTs (X : Cx) (ifs : List Expr) (t : TT) : Prop :=
  ∀ (pins : List (Addr × Obj)) (s : Shared) (σ : St) (H : Hp) (Q : Bool → Hp → Prop), Inv X pins σ H s → t σ H Q →
    wpAny (model X.prog X.w) X.A (forIn ifs true fun c r => if r = true then do let ok ← isTrue c X.env (eval c X.env); pure (ForInStep.yield ok) else pure (ForInStep.yield r)) (TP X pins σ Q) X.xe s
def tYes : TT := fun _ H Q => Q true H
theorem pts_nil : PTs X [] tYes := fun _ _ _ H _ I h => wpAny_tests_nil ⟨H, I, h⟩
end

theorem thnF {α : Type} {t : Sem α} {Q Q' : α → Shared → Prop} {M : Model} {A : Around} {E : Value → Shared → Prop} {s : Shared} (h : wpAny M A t Q (fun _ _ => False) s) (hQ : ∀ a s, Q a s → Q' a s) : wpAny M A t Q' E s := wpAny_mono h hQ fun _ _ z => False.elim z


theorem compLoop_any {prog : Program} {w : World} {A : Around} {R : Result → Shared → Prop} {s : Shared} {elt target iter : Expr} {ifs : List Expr} {scope : Scope} {pos : Pos} {it acc : Value} {env : Env} (I : Nat → Shared → Prop)
    (turn : ∀ n s, I n s → wpAny (model prog w) A (pyNext it) (fun r s₁ => match r with
      | none => R (.ok .next) s₁
      | some v => wpAny (model prog w) A (letOwnedTupleGo target it v) (fun _ s₁' => wpAny (model prog w) A (assign target env v) (fun _ s₂ =>
          wpAny (model prog w) A (forIn ifs true fun c r => if r = true then do let ok ← isTrue c env (eval c env); pure (ForInStep.yield ok) else pure (ForInStep.yield r)) (fun ok s₃ =>
            if ok = true then wpAny (model prog w) A (eval elt env) (fun x s₄ =>
              wpAny (model prog w) A (call (.builtin "list.append") [acc, x]) (fun _ s₅ => ∃ m, m < n ∧ I m s₅) (notedBy (model prog w) A env fun e s' => R (.error e) s') s₄) (notedBy (model prog w) A env fun e s' => R (.error e) s') s₃
            else ∃ m, m < n ∧ I m s₃) (notedBy (model prog w) A env fun e s' => R (.error e) s') s₂) (notedBy (model prog w) A env fun e s' => R (.error e) s') s₁') (notedBy (model prog w) A env fun e s' => R (.error e) s') s₁) (notedBy (model prog w) A env fun e s' => R (.error e) s') s)
    (n : Nat) (h : I n s) :
    codeAny (model prog w) A (.compLoop (.ListComp elt [⟨target, iter, ifs, 0⟩] scope pos) 0 it acc env) R s := by
  refine codeAny_loop rfl I (fun n s hI => ?_) n h
  show wpAny _ A ((compTurn (.ListComp elt [⟨target, iter, ifs, 0⟩] scope pos) 0 it acc env).onRaise (fun x => do noteFrame x env; theTreesLotGoes x)) _ _ s
  refine wpAny_noted ?_
  rw [compTurn_list]
  refine wpAny_bind (wpAny_standAt (wpAny_bind (wpAny_mono (turn n s hI) (fun r s₁ h₁ => ?_) fun _ _ h' => h')))
  cases r with
  | none => exact wpAny_pure h₁
  | some v =>
    refine wpAny_bind (wpAny_mono h₁ (fun _ s₁' h₁' => ?_) fun _ _ h' => h')
    refine wpAny_bind (wpAny_mono h₁' (fun _ s₂ h₂ => wpAny_bind (wpAny_mono h₂ (fun ok s₃ h₃ => ?_) fun _ _ h' => h')) fun _ _ h' => h')
    cases ok with
    | false => exact wpAny_pure ⟨rfl, h₃⟩
    | true =>
      exact wpAny_bind (wpAny_bind (wpAny_mono h₃ (fun x s₄ h₄ => wpAny_bind (wpAny_mono h₄ (fun _ s₅ h₅ => wpAny_pure (wpAny_pure ⟨rfl, h₅⟩)) fun _ _ h' => h')) fun _ _ h' => h'))

section
variable {X : Cx}

def tLc (wi : TI) (g : TG) (tt : TT) (te : TE) (vs : List Nat) : TE := fun σ H Q => wi σ H fun J H1 => ∀ D, H1 D = none → ∃ W : Nat → Nat → Hp → Prop, (∃ m, W 0 m (upd H1 D (.lst []))) ∧ ∀ i m H, W i m H →
  (J.stop i H ∧ Q (.ref D) H) ∨ (J.go i H ∧ ∃ Nx : Hp → Prop, (∀ H', Nx H' → ∃ m', m' < m ∧ W (i + 1) m' H') ∧ ∀ x H', J.yld i H x H' → g x (wipe σ vs) H' fun σ2 H2 => wipe σ2 vs = wipe σ vs ∧ tt σ2 H2 fun b H3 =>
    if b = true then te σ2 H3 fun y H4 => ∃ acc, H4 D = some (.lst acc) ∧ acc.length < sizeLine ∧ Nx (upd H4 D (.lst (acc ++ [y]))) else Nx H3)
theorem lc_core {pins : List (Addr × Obj)} {s : Shared} {σ : St} {H : Hp} {Q : VK} {elt tg iter : Expr} {ifs : List Expr} {scope : Scope} {own : List (Str × Nat)} {pos pos' : Pos} {wi : TI} {g : TG} {tt : TT} {te : TE} {use : Option (Value → Sem Unit)} {Qf : Value → Shared → Prop}
    (hc : X.calm = true) (hN : X.N.Nodup) (I : Inv X pins σ H s) (hi : PI X tg iter wi) (ok : BlkOk X.N X.env.scope scope own)
    (hg : ∀ (s : Shared) (H : Hp) (C : Addr) (cl : List (Str × Addr)) (fp : List Addr), PG (X.blk s H scope (compEnvC scope cl C X.env) fp) tg g) (ht : ∀ (s : Shared) (H : Hp) (C : Addr) (cl : List (Str × Addr)) (fp : List Addr), PTs (X.blk s H scope (compEnvC scope cl C X.env) fp) ifs tt)
    (he : ∀ (s : Shared) (H : Hp) (C : Addr) (cl : List (Str × Addr)) (fp : List Addr), PE (X.blk s H scope (compEnvC scope cl C X.env) fp) elt te) (hs : ∀ x, foldedSetIterable iter X.env x = pure x)
    (h : tLc wi g tt te (own.map (·.2)) σ H Q)
    (hRR : ∀ D C s' m H', Inv X pins σ H' s' → Q (.ref D) H' → s'.heap.Ns C m → FpOk X pins H' C → compPost (model X.prog X.w) X.A X.xe use Qf (.ref D) C (.ok .next) s') :
    wpAny (model X.prog X.w) X.A (comprehension (.ListComp elt [⟨tg, iter, ifs, 0⟩] scope pos) scope X.env pos' (newList []) false (eval iter X.env) use) Qf X.xe s := by
  have hfree : ∀ y ∈ scope.names, y.2 = .free → ∃ c, X.env.cells.lookup y.1 = some c := fun y hy e => by
    rcases ok.free y hy e with k | k
    · exact I.ok.has _ (.inl k)
    · exact I.ok.has _ (.inr k)
  refine wpAny_comprehension_free (use := use) rfl hs (closure_ok hfree) ok.kind (fun y hy e => by rw [ok.uniq y hy, e])
    (thn (hi pins s σ H _ I h) fun xv s1 hx => thn hx fun itv s2 h2 => ?_)
  obtain ⟨it, fp, tn, J, H2, e, I2, T, st2, f2, q⟩ := h2
  subst e
  refine wpAny_newObj_type (newEnv_comp ?_) (by show 0 ≤ sizeLine; decide)
  generalize hD : s2.heap.objs.size = D
  have hDn : H2 D = none := I2.hok.fresh (Nat.le_of_eq hD)
  obtain ⟨W, ⟨m0, w0⟩, turn⟩ := q D hDn
  -- the new list
  generalize hs3 : ({ s2 with heap := s2.heap.push { cls := .type "list", data := .seq ([] : List Value).toArray } } : Shared) = s3
  have I3 : Inv X pins σ (upd H2 D (.lst [])) s3 := by
    rw [← hs3]
    refine I2.laid (t' := s2.toks) (fun b o e => Heap.get?_push_of_some _ e) (Nat.le_of_eq hD) ⟨Nat.zero_le _, [], 0, .nil, ?_⟩
    rw [← hD]
    exact Heap.get?_push_size _ rfl
  have h3 : s3.heap = s2.heap.push { cls := .type "list", data := .seq ([] : List Value).toArray } := by rw [← hs3]
  have sz : ∀ b ∈ fp, b < s2.heap.objs.size := fun b hb => by
    obtain ⟨o, e, _⟩ := T.obj _ _ st2 b hb
    exact Heap.lt_size e
  have f3 : ∀ b ∈ fp, FpOk X pins (upd H2 D (.lst [])) b ∧ b < s3.heap.objs.size := fun b hb => by
    have hlt := sz b hb
    refine ⟨⟨?_, (f2 b hb).2⟩, by rw [h3, Heap.size_push]; exact Nat.lt_succ_of_lt hlt⟩
    rw [upd_ne (by rw [← hD]; exact Nat.ne_of_lt hlt)]
    exact (f2 b hb).1
  have st3 : tn 0 s3.heap := T.keep _ _ _ st2 fun b _ o e => by rw [h3]; exact Heap.get?_push_of_some _ e
  have I4 := block_start I3 ok hN f3
  have pg := hg s3 (upd H2 D (.lst [])) s3.heap.objs.size (cellsFrom (s3.heap.objs.size + 1) scope.names (cloFrom X.env.cells scope.names [])) fp
  have pt := ht s3 (upd H2 D (.lst [])) s3.heap.objs.size (cellsFrom (s3.heap.objs.size + 1) scope.names (cloFrom X.env.cells scope.names [])) fp
  have pe := he s3 (upd H2 D (.lst [])) s3.heap.objs.size (cellsFrom (s3.heap.objs.size + 1) scope.names (cloFrom X.env.cells scope.names [])) fp
  show codeAny _ _ (.compStart (.ListComp elt [⟨tg, iter, ifs, 0⟩] scope pos) 0 (.ref it) (.ref D) (compEnvC scope (cellsFrom (s3.heap.objs.size + 1) scope.names (cloFrom X.env.cells scope.names [])) s3.heap.objs.size X.env)) (compPost (model X.prog X.w) X.A X.xe use Qf (.ref D) s3.heap.objs.size) { s3 with heap := pushCells (s3.heap.push { cls := .type "dict", data := .dict #[] }) scope.names }
  have nfp : ∀ b ∈ fp, (upd H2 D (.lst [])) b = none := fun b hb => (f3 b hb).1.1
  generalize hce : compEnvC scope (cellsFrom (s3.heap.objs.size + 1) scope.names (cloFrom X.env.cells scope.names [])) s3.heap.objs.size X.env = ce at I4 pg pt pe ⊢
  have cL : ce.locals = s3.heap.objs.size := by subst hce; rfl
  generalize hH3 : upd H2 D (.lst []) = H3 at I3 I4 pg pt pe w0 nfp f3
  generalize hs4 : ({ s3 with heap := pushCells (s3.heap.push { cls := .type "dict", data := .dict #[] }) scope.names } : Shared) = s4 at I4 ⊢
  have st4 : tn 0 s4.heap := T.keep _ _ _ st3 fun b _ o e => by rw [← hs4]; exact pushCells_keeps _ _ _ _ (Heap.get?_push_of_some _ e)
  have stat : ∀ {σ' : St} {H' : Hp} {s' : Shared}, Inv (X.blk s3 H3 scope ce fp) [] σ' H' s' → (∀ b ∈ fp, H' b = none) → ∀ b ∈ fp, FpOk (X.blk s3 H3 scope ce fp) [] H' b := fun {σ' H' s'} I' hn b hb =>
    ⟨hn b hb, (I'.ok.exf b hb).1, I'.ok.exfs b hb, .inl hb, fun x c e => (I'.ok.exf b hb).2 x c e, fun p hp => absurd (show p ∈ ([] : List (Addr × Obj)) ++ [] from hp) (by simp)⟩
  have loop : codeAny (model X.prog X.w) X.A (.compLoop (.ListComp elt [⟨tg, iter, ifs, 0⟩] scope pos) 0 (.ref it) (.ref D) ce) (compPost (model X.prog X.w) X.A X.xe use Qf (.ref D) s3.heap.objs.size) s4 := by
    refine compLoop_any (fun n s' => ∃ i H', Inv (X.blk s3 H3 scope ce fp) [] (wipe σ (own.map (·.2))) H' s' ∧ tn i s'.heap ∧ (∀ b ∈ fp, H' b = none) ∧ W i n H') ?_ m0 ⟨0, H3, I4, st4, nfp, w0⟩
    rintro n s5 ⟨i, H5, I5, st5, n5, w5⟩
    rcases turn i n H5 w5 with ⟨stop, qq⟩ | ⟨go, Nx, hNx, step⟩
    · have td := T.done (X.blk s3 H3 scope ce fp) rfl rfl rfl hc i [] s5 _ H5 (fun _ _ => False) I5 (stat I5 n5) st5 stop
      refine thnF td fun r s6 ⟨hr, I6⟩ => ?_
      subst hr
      -- back in the def's context
      have I7 : Inv X pins σ H5 s6 := I3.call' (ch := fp) I6.os I6.base I6.hok I6.bare fun b hb => ⟨(f3 b hb).1.2.2.2.1, (f3 b hb).1.2.1, (f3 b hb).1.2.2.2.2.1, (f3 b hb).1.2.2.2.2.2⟩
      have nC : H5 s3.heap.objs.size = none := by
        have z : H5 ce.locals = none := I6.free
        rw [cL] at z
        exact z
      obtain ⟨m, hn, _⟩ := I6.loc
      have hn : s6.heap.Ns ce.locals m := hn
      rw [cL] at hn
      exact hRR D s3.heap.objs.size s6 m H5 I7 qq hn (I3.fpOk (Nat.le_refl _) nC)
    · have ti := T.item (X.blk s3 H3 scope ce fp) rfl rfl rfl hc i [] s5 _ H5 (fun _ _ => False) I5 (stat I5 n5) st5 go
      refine thnF ti fun r s6 ⟨u, hr, h6⟩ => ?_
      subst hr
      refine thnF h6 fun _ s7 ⟨x, H7, I7, r7, y7, st7, n7⟩ => ?_
      have I7' := I7.pinned (stat I7 n7) (T.obj _ _ st7)
      refine thnF (pg _ s7 _ H7 x u _ I7' r7 (step x H7 y7)) fun _ s8 ⟨σ8, H8, I8, hw8, q8⟩ => ?_
      refine thnF (pt _ s8 σ8 H8 _ I8 q8) fun b s9 ⟨H9, I9, q9⟩ => ?_
      -- the turn's end
      have fin : ∀ {s' : Shared} {H' : Hp}, Inv (X.blk s3 H3 scope ce fp) ([] ++ pinsAt fp s7.heap) σ8 H' s' → Nx H' → ∃ m, m < n ∧ ∃ i H', Inv (X.blk s3 H3 scope ce fp) [] (wipe σ (own.map (·.2))) H' s' ∧ tn i s'.heap ∧ (∀ b ∈ fp, H' b = none) ∧ W i m H' := fun {s' H'} I' nx => by
        obtain ⟨m', hm, w'⟩ := hNx H' nx
        have pin' : ∀ b ∈ fp, ∀ o, s7.heap.get? b = some o → s'.heap.get? b = some o ∧ H' b = none := fun b hb o e =>
          let z := I'.pin (b, o) (List.mem_append_right _ (List.mem_append_right _ (mem_pinsAt hb e)))
          ⟨z.1, z.2.1⟩
        have hl : (wipe σ (own.map (·.2))).length = σ8.length := by rw [← hw8, wipe_length]
        refine ⟨m', hm, i + 1, H', (I'.unpinned (pins := [])).weak hl (fun j v e => ?_), T.keep _ _ _ st7 fun b hb o e => (pin' b hb o e).1, fun b hb => ?_, w'⟩
        · rw [← hw8] at e
          exact (wipe_some e).1
        · obtain ⟨o, e, _⟩ := T.obj _ _ st7 b hb
          exact (pin' b hb o e).2
      cases b with
      | false =>
        simp only [Bool.false_eq_true, if_false] at q9 ⊢
        exact fin I9 q9
      | true =>
        simp only [if_true] at q9 ⊢
        refine thnF (pe _ s9 σ8 H9 _ I9 q9) fun z s10 ⟨yv, H10, I10, r10, acc, hD10, hz10, nx⟩ => ?_
        exact app_ok (X := X.blk s3 H3 scope ce fp) I10 hD10 hz10 r10 fun s11 I11 => fin I11 nx
  exact codeAny_compStart_list loop (T.self X.A 0 _ _ _ st4 loop)

theorem pe_lc {elt tg iter : Expr} {ifs : List Expr} {scope : Scope} {own : List (Str × Nat)} {pos : Pos} {wi : TI} {g : TG} {tt : TT} {te : TE} (hc : X.calm = true) (hN : X.N.Nodup) (hi : PI X tg iter wi) (ok : BlkOk X.N X.env.scope scope own)
    (hg : ∀ (s : Shared) (H : Hp) (C : Addr) (cl : List (Str × Addr)) (fp : List Addr), PG (X.blk s H scope (compEnvC scope cl C X.env) fp) tg g) (ht : ∀ (s : Shared) (H : Hp) (C : Addr) (cl : List (Str × Addr)) (fp : List Addr), PTs (X.blk s H scope (compEnvC scope cl C X.env) fp) ifs tt)
    (he : ∀ (s : Shared) (H : Hp) (C : Addr) (cl : List (Str × Addr)) (fp : List Addr), PE (X.blk s H scope (compEnvC scope cl C X.env) fp) elt te) (hs : ∀ x, foldedSetIterable iter X.env x = pure x := by intro _; rfl) :
    PE X (.ListComp elt [⟨tg, iter, ifs, 0⟩] scope pos) (tLc wi g tt te (own.map (·.2))) := by
  intro pins s σ H Q I h
  rw [eval_ListComp]
  refine lc_core hc hN I hi ok hg ht he hs h fun D C s' m H' I' q hn f => ⟨m, hn, fun h'' sb => ?_⟩
  obtain ⟨f0, f1, f2, f3, f4, f5⟩ := f
  exact ⟨.ref D, H', I'.turned (t' := s'.toks) (fun b o hb e => (sb.2 b hb).trans e) f0 f1 f3 f4 f5, rfl, q⟩

end



theorem lc_list {K : PySem.W.Frag} {a : Addr} {xs : List V} {g : TG} {tt : TT} {te : TE} {vs : List Nat} {σ : St} {H1 : Hp} {D : Addr} {Qd : Hp → Prop} (Pv : Nat → Hp → Prop) (h0 : Pv 0 (upd H1 D (.lst []))) (hl : ∀ i H, i ≤ xs.length → Pv i H → SqL K H a xs)
    (hs : ∀ i x H, xs[i]? = some x → Pv i H → g x (wipe σ vs) H fun σ2 H2 => wipe σ2 vs = wipe σ vs ∧ tt σ2 H2 fun b H3 =>
      if b = true then te σ2 H3 fun y H4 => ∃ acc, H4 D = some (.lst acc) ∧ acc.length < sizeLine ∧ Pv (i + 1) (upd H4 D (.lst (acc ++ [y]))) else Pv (i + 1) H3) (hd : ∀ H, Pv xs.length H → Qd H) :
    ∃ W : Nat → Nat → Hp → Prop, (∃ m, W 0 m (upd H1 D (.lst []))) ∧ ∀ i m H, W i m H →
      ((Itl K a).stop i H ∧ Qd H) ∨ ((Itl K a).go i H ∧ ∃ Nx : Hp → Prop, (∀ H', Nx H' → ∃ m', m' < m ∧ W (i + 1) m' H') ∧ ∀ x H', (Itl K a).yld i H x H' → g x (wipe σ vs) H' fun σ2 H2 => wipe σ2 vs = wipe σ vs ∧ tt σ2 H2 fun b H3 =>
        if b = true then te σ2 H3 fun y H4 => ∃ acc, H4 D = some (.lst acc) ∧ acc.length < sizeLine ∧ Nx (upd H4 D (.lst (acc ++ [y]))) else Nx H3) := by
  refine ⟨fun i m H => m = xs.length - i ∧ i ≤ xs.length ∧ Pv i H, ⟨xs.length, by simp, Nat.zero_le _, h0⟩, ?_⟩
  rintro i m H ⟨rfl, hi, p⟩
  have q := hl i H hi p
  by_cases hlt : i < xs.length
  · refine .inr ⟨⟨xs, xs[i], q, by simp [hlt]⟩, Pv (i + 1), fun H' p' => ⟨xs.length - (i + 1), by omega, rfl, hlt, p'⟩, fun x H' y => ?_⟩
    obtain ⟨e, y⟩ := y
    subst e
    exact hs i x _ (y xs q) p
  · have e : i = xs.length := by omega
    subst e
    exact .inl ⟨⟨xs, q, Nat.le_refl _⟩, hd H p⟩

def blkC (N : List Str) (sc scope : Scope) (own : List (Str × Nat)) : Bool :=
  (match scope.kind with | .function => true | _ => false) && (scope.names.all fun y => decide (scope.names.lookup y.1 = some y.2)) && (own.all fun p => decide (N[p.2]? = some p.1)) &&
    (scope.names.all fun y => match y.2 with
      | .free => (match sc.names.lookup y.1 with | some .cell => true | some .free => true | _ => false)
      | .local => decide (y.1 ∈ own.map (·.1)) || decide (y.1 ∉ N)
      | .cell => decide (y.1 ∈ own.map (·.1)) || decide (y.1 ∉ N)
      | _ => true)
end L2

namespace L2
open PySem PySem.Spec PyProof.Rows

section
variable {prog : Program} {w : World} {A : Around} {R : Result → Shared → Prop} {s : Shared} {elt t0 i0 t1 i1 : Expr} {ifs0 ifs1 : List Expr} {scope : Scope} {pos : Pos} {it acc : Value} {env : Env}

end

section
variable {X : Cx}

def tLc2 (wi : TI) (g : TG) (tt : TT) (wi1 : TI) (g1 : TG) (tt1 : TT) (te : TE) (vs vs1 : List Nat) : TE := fun σ H Q => wi σ H fun J H1 => ∀ D, H1 D = none → ∃ W : Nat → Nat → Hp → Prop, (∃ m, W 0 m (upd H1 D (.lst []))) ∧ ∀ i m H, W i m H →
  (J.stop i H ∧ Q (.ref D) H) ∨ (J.go i H ∧ ∃ Nx : Hp → Prop, (∀ H', Nx H' → ∃ m', m' < m ∧ W (i + 1) m' H') ∧ ∀ x H', J.yld i H x H' → g x (wipe σ vs) H' fun σ2 H2 => wipe σ2 vs = wipe σ vs ∧ tt σ2 H2 fun b H3 =>
    if b = true then wi1 σ2 H3 fun J1 H4 => ∃ W1 : Nat → Nat → Hp → Prop, (∃ m, W1 0 m H4) ∧ ∀ j k H, W1 j k H →
      (J1.stop j H ∧ Nx H) ∨ (J1.go j H ∧ ∃ Nx1 : Hp → Prop, (∀ H', Nx1 H' → ∃ k', k' < k ∧ W1 (j + 1) k' H') ∧ ∀ x H', J1.yld j H x H' → g1 x (wipe σ2 vs1) H' fun σ3 H5 => wipe σ3 vs1 = wipe σ2 vs1 ∧ tt1 σ3 H5 fun b H6 =>
        if b = true then te σ3 H6 fun y H7 => ∃ acc, H7 D = some (.lst acc) ∧ acc.length < sizeLine ∧ Nx1 (upd H7 D (.lst (acc ++ [y]))) else Nx1 H6)
    else Nx H3)
end
end L2

namespace L2
open PySem PySem.Spec PyProof.Rows


section
variable {κ : Type} [DecidableEq κ]
def valV (kvs : List (κ × V)) (k : κ) : Option V := (kvs.find? fun kv => decide (kv.1 = k)).map (·.2)

def putK (kvs : List (κ × V)) (k : κ) (v : V) : List (κ × V) :=
  if (kvs.any fun kv => decide (kv.1 = k)) = true then kvs.map (fun kv => if kv.1 = k then (kv.1, v) else kv) else kvs ++ [(k, v)]
def dropK (kvs : List (κ × V)) (k : κ) : List (κ × V) := kvs.filter fun kv => decide (kv.1 ≠ k)

end



abbrev KT (H : Hp) : List (List Key × V) → List (List Key × Addr × Value) → Prop := Paired fun p q => p.1 = q.1 ∧ H q.2.1 = some (.tup (p.1.map kV)) ∧ RelV p.2 q.2.2
section
variable {P : Program} {w : World} {H : Hp} {h : Heap} {a : Addr}
end


def DGet (H : Hp) (a : Addr) (y : V) (r : Option V) : Prop :=
  (∃ kvs k, Rd H a (.dK kvs) ∧ y = kV k ∧ r = valV kvs k) ∨ ∃ kvs k b, Rd H a (.dT kvs) ∧ y = .ref b ∧ H b = some (.tup (k.map kV)) ∧ r = valV kvs k

def DPut (H : Hp) (a : Addr) (y v : V) (H' : Hp) : Prop :=
  (∃ kvs k, H a = some (.dK kvs) ∧ y = kV k ∧ kvs.length < sizeLine ∧ H' = upd H a (.dK (putK kvs k v))) ∨
  ∃ kvs k b, H a = some (.dT kvs) ∧ y = .ref b ∧ H b = some (.tup (k.map kV)) ∧ kvs.length < sizeLine ∧ H' = upd H a (.dT (putK kvs k v))
section
variable {X : Cx} {pins : List (Addr × Obj)} {σ : St} {H : Hp} {s : Shared} {a : Addr} {y v : V} {u r : Value} {o : Option V} {A : Around} {E : Value → Shared → Prop}

end

section
variable {X : Cx} {pins : List (Addr × Obj)} {σ : St} {H : Hp} {s : Shared} {a : Addr} {kvs : List (Key × V)} {k : Key} {u : Value} {A : Around} {E : Value → Shared → Prop}

end




def NoSl (i : Expr) : Prop := ∀ ov iv, subscripted i false ov iv = operate [ov, iv] (getItem ov iv)
def tDGet (td ty : TE) : TE := fun σ H Q => td σ H fun x H1 => ty σ H1 fun y H2 => ∃ a v, x = .ref a ∧ DGet H2 a y (some v) ∧ Q v H2

def tDIn (ty td : TE) : TE := fun σ H Q => ty σ H fun y H1 => td σ H1 fun x H2 => ∃ a o, x = .ref a ∧ DGet H2 a y o ∧ Q (.bl o.isSome) H2
def tDNotIn (ty td : TE) : TE := fun σ H Q => ty σ H fun y H1 => td σ H1 fun x H2 => ∃ a o, x = .ref a ∧ DGet H2 a y o ∧ Q (.bl (!o.isSome)) H2

def sDPut (td ty tv : TE) : TS := fun D σ H => tv σ H fun v H1 => td σ H1 fun x H2 => ty σ H2 fun y H3 => ∃ a H4, x = .ref a ∧ DPut H3 a y v H4 ∧ D.nx σ H4

def sDAug (td ty tv : TE) (rd : V → V → Hp → VK → Prop) : TS := fun D σ H => td σ H fun x H1 => ty σ H1 fun y H2 => ∃ a v, x = .ref a ∧ DGet H2 a y (some v) ∧
  tv σ H2 fun y2 H3 => rd v y2 H3 fun z H4 => ∃ H5, DPut H4 a y z H5 ∧ D.nx σ H5

def sDDel (td ty : TE) : TS := fun D σ H => td σ H fun x H1 => ty σ H1 fun y H2 => ∃ a kvs k, x = .ref a ∧ H2 a = some (.dK kvs) ∧ y = kV k ∧ (valV kvs k).isSome = true ∧ D.nx σ (upd H2 a (.dK (dropK kvs k)))

section
variable {X : Cx} {o i e value : Expr} {pos pos' tpos : Pos} {td ty tv : TE}
end



def tDNewK : TE := fun _ H Q => ∀ p, H p = none → Q (.ref p) (upd H p (.dK []))
def tDNewT : TE := fun _ H Q => ∀ p, H p = none → Q (.ref p) (upd H p (.dT []))
section
variable {X : Cx} {pos : Pos}
end


def tPairs : List (TE × TE) → St → Hp → (List (V × V) → Hp → Prop) → Prop
  | [], _, H, Q => Q [] H
  | (tk, tv) :: r, σ, H, Q => tk σ H fun x H1 => tv σ H1 fun y H2 => tPairs r σ H2 fun ps H3 => Q ((x, y) :: ps) H3
abbrev VV : List (V × V) → List (Value × Value) → Prop := Paired fun p q => RelV p.1 q.1 ∧ RelV p.2 q.2
def PPs (X : Cx) (pos : Pos) (keys : List (Option Expr)) (values : List Expr) (trs : List (TE × TE)) : Prop :=
  ∀ (pins : List (Addr × Obj)) (s : Shared) (σ : St) (H : Hp) (Q : List (V × V) → Hp → Prop), Inv X pins σ H s → tPairs trs σ H Q →
    wpAny (model X.prog X.w) X.A (evalPairs (pairTrees keys values X.env pos)) (fun vs s' => ∃ ps H', Inv X pins σ H' s' ∧ VV ps vs ∧ Q ps H') X.xe s
def mergeK (kvs more : List (Key × V)) : List (Key × V) := more.foldl (fun acc kv => putK acc kv.1 kv.2) kvs
def tDisp (trs : List (TE × TE)) : TE := fun σ H Q => ∀ p, H p = none → tPairs trs σ (upd H p (.dK [])) fun ps H2 => H2 p = some (.dK []) ∧ ∃ kvs : List (Key × V), ps = kvs.map (fun kv => (kV kv.1, kv.2)) ∧ kvs.length ≤ 15 ∧ Q (.ref p) (upd H2 p (.dK (mergeK [] kvs)))
structure M1 (X : Cx) (o : Expr) (m : Str) (apos : Pos) (e : Expr) (cpos : Pos) : Prop where
  base : attributeBase o m X.env (eval o X.env) = eval o X.env
  few : ((backTo cpos (starEach [e] X.env)).all (fun x => !x.1) && (backToKw cpos (keywordEach [] X.env)).all (fun x => x.1.isSome)
    && decide (([e] : List Expr).length + ([] : List Keyword).length + (if ([] : List Keyword).isEmpty then 0 else 1) < 30)) = true
  line : (apos.endLine == cpos.line) = true
  trees : backTo cpos (starEach [e] X.env) = [(false, eval e X.env)]
structure M2 (X : Cx) (o : Expr) (m : Str) (apos : Pos) (e f : Expr) (cpos : Pos) : Prop where
  base : attributeBase o m X.env (eval o X.env) = eval o X.env
  few : ((backTo cpos (starEach [e, f] X.env)).all (fun x => !x.1) && (backToKw cpos (keywordEach [] X.env)).all (fun x => x.1.isSome)
    && decide (([e, f] : List Expr).length + ([] : List Keyword).length + (if ([] : List Keyword).isEmpty then 0 else 1) < 30)) = true
  line : (apos.endLine == cpos.line) = true
  trees : backTo cpos (starEach [e, f] X.env) = [(false, eval e X.env), (false, eval f X.env)]


def IsD (H : Hp) (a : Addr) : Prop := (∃ kvs, Rd H a (.dK kvs)) ∨ ∃ kvs, Rd H a (.dT kvs)
section
variable {X : Cx} {pins : List (Addr × Obj)} {σ : St} {H : Hp} {s : Shared} {a : Addr} {y d : V} {u r : Value} {o : Option V} {A : Around} {E : Value → Shared → Prop}

end

def tDGet1 (td ty : TE) : TE := fun σ H Q => td σ H fun x H1 => ∃ a, x = .ref a ∧ IsD H1 a ∧ ty σ H1 fun y H2 => ∃ o, DGet H2 a y o ∧ Q (o.getD .non) H2
def tDGet2 (td ty tx : TE) : TE := fun σ H Q => td σ H fun x H1 => ∃ a, x = .ref a ∧ IsD H1 a ∧ ty σ H1 fun y H2 => tx σ H2 fun z H3 => ∃ o, DGet H3 a y o ∧ Q (o.getD z) H3

def tDPop1 (td ty : TE) : TE := fun σ H Q => td σ H fun x H1 => ∃ a, x = .ref a ∧ IsD H1 a ∧ ty σ H1 fun y H2 => ∃ kvs k v, H2 a = some (.dK kvs) ∧ y = kV k ∧ valV kvs k = some v ∧ Q v (upd H2 a (.dK (dropK kvs k)))
def tDPop2 (td ty tx : TE) : TE := fun σ H Q => td σ H fun x H1 => ∃ a, x = .ref a ∧ IsD H1 a ∧ ty σ H1 fun y H2 => tx σ H2 fun z H3 => ∃ kvs k, H3 a = some (.dK kvs) ∧ y = kV k ∧
  (∀ v, valV kvs k = some v → Q v (upd H3 a (.dK (dropK kvs k)))) ∧ (valV kvs k = none → Q z H3)
section
variable {X : Cx} {o e f : Expr} {apos cpos : Pos} {td ty tx : TE}
end


section
variable {X : Cx} {pins : List (Addr × Obj)} {σ : St} {H : Hp} {s : Shared} {a : Addr} {kvs : List (Key × V)} {A : Around} {E : Value → Shared → Prop}
end


section
variable {X : Cx} {pins : List (Addr × Obj)} {σ : St} {H : Hp} {s : Shared} {a : Addr} {y : V} {u : Value} {A : Around} {E : Value → Shared → Prop}

end
end L2

namespace L2
open PySem PySem.Spec PyProof.Rows

section
variable {prog : Program} {w : World} {A : Around} {E : Value → Shared → Prop}

end

section
variable {X : Cx}
end
end L2

namespace L2
open PySem PySem.Spec PyProof.Rows

section
variable {X : Cx} {pins : List (Addr × Obj)} {σ : St} {H : Hp} {s : Shared} {h' : Heap}

end

def tLock (t : TS) : TS := fun D σ H => ∃ d u, H d = some u ∧ Mut (some u) ∧ ∀ od, t ⟨fun σ' H' => H' d = some (.frz od u) ∧ D.nx σ' (upd H' d u), fun v H' => H' d = some (.frz od u) ∧ D.rt v (upd H' d u), fun σ' H' => H' d = some (.frz od u) ∧ D.bk σ' (upd H' d u), fun σ' H' => H' d = some (.frz od u) ∧ D.ct σ' (upd H' d u)⟩ σ (upd H d (.frz od u))
def tLockE (t : TE) : TE := fun σ H Q => ∃ d u, H d = some u ∧ Mut (some u) ∧ ∀ od, t σ (upd H d (.frz od u)) fun v H' => H' d = some (.frz od u) ∧ Q v (upd H' d u)
section
variable {X : Cx}
end



def Itc (lo c : Int) (n : Nat) : It := ⟨fun i _ => i < n, fun i H x H' => H' = H ∧ x = .int (lo + (i : Nat) * c), fun i _ => n ≤ i⟩
def RgC (i j c : Int) (n : Nat) : Prop := c ≠ 0 ∧ c.natAbs < 1073741824 ∧ Builtin.Range.small i j c = true ∧ Builtin.Range.rangeSize i j c = n
def iRng3 (ta : TA) : TI := fun σ H R => ta σ H fun vs H1 => ∃ (i j c : Int) (n : Nat), vs = [.int i, .int j, .int c] ∧ RgC i j c n ∧ R (Itc i c n) H1
section
variable {X : Cx} {tg : Expr}
end

def Itv (K : PySem.W.Frag) (a : Addr) (n : Nat) : It :=
  ⟨fun i H => i < n ∧ ∃ (xs : List V) (x : V), SqL K H a xs ∧ xs[n - 1 - i]? = some x, fun i H x H' => H' = H ∧ ∀ xs, SqL K H a xs → xs[n - 1 - i]? = some x, fun i _ => n ≤ i⟩
def iRev (K : PySem.W.Frag) (ta : TA) : TI := fun σ H R => ta σ H fun vs H1 => ∃ (a : Addr) (xs : List V), vs = [.ref a] ∧ SqL K H1 a xs ∧ R (Itv K a xs.length) H1
section
variable {X : Cx} {tg : Expr}
end


def Its (x : Str) : It := ⟨fun i _ => i < x.cps.size, fun i H v H' => H' = H ∧ ∃ c, x.cps[i]? = some c ∧ v = .str ⟨#[c]⟩, fun i _ => x.cps.size ≤ i⟩
def iStr (te : TE) : TI := fun σ H R => te σ H fun v H1 => ∃ x, v = .str x ∧ R (Its x) H1
section
variable {prog : Program} {w : World} {A : Around} {E : Value → Shared → Prop} {s : Shared}
end


section
variable {X : Cx} {pins : List (Addr × Obj)} {σ : St} {H : Hp} {s : Shared} {d : Addr} {o : Obj}
end


def Itk (d : Addr) (o : Obj) (kvs : List (Key × V)) : It :=
  ⟨fun i H => H d = some (.frz o (.dK kvs)) ∧ i < kvs.length, fun i H x H' => H' = H ∧ ∃ k v, kvs[i]? = some (k, v) ∧ x = kV k, fun i H => H d = some (.frz o (.dK kvs)) ∧ kvs.length ≤ i⟩

def Itkt (d : Addr) (o : Obj) (kvs : List (List Key × V)) : It :=
  ⟨fun i H => H d = some (.frz o (.dT kvs)) ∧ i < kvs.length, fun i H x H' => H' = H ∧ ∃ (k : List Key) (v : V) (q : Addr), kvs[i]? = some (k, v) ∧ x = .ref q ∧ H q = some (.tup (k.map kV)), fun i H => H d = some (.frz o (.dT kvs)) ∧ kvs.length ≤ i⟩

def Itd (d : Addr) (o : Obj) (kvs : List (Key × V)) : It :=
  ⟨fun i H => H d = some (.frz o (.dK kvs)) ∧ i < kvs.length, fun i H x H' => H' = H ∧ ∃ k, kvs[i]? = some (k, x), fun i H => H d = some (.frz o (.dK kvs)) ∧ kvs.length ≤ i⟩

def Iti (d : Addr) (o : Obj) (kvs : List (Key × V)) : It :=
  ⟨fun i H => H d = some (.frz o (.dK kvs)) ∧ i < kvs.length, fun i H x H' => ∃ T k v, kvs[i]? = some (k, v) ∧ x = .ref T ∧ H T = none ∧ H' = upd H T (.tup [kV k, v]), fun i H => H d = some (.frz o (.dK kvs)) ∧ kvs.length ≤ i⟩
section
variable {P : Program} {w : World} {K : PySem.W.Frag} {tg : Expr} {d : Addr} {o : Obj} {es : Array DictEntry} {ep : Nat}
end



def iKeys (td : TE) : TI := fun σ H R => td σ H fun x H1 => ∃ d o, x = .ref d ∧ ((∃ kvs, H1 d = some (.frz o (.dK kvs)) ∧ R (Itk d o kvs) H1) ∨ ∃ kvs, H1 d = some (.frz o (.dT kvs)) ∧ R (Itkt d o kvs) H1)
def iVals (td : TE) : TI := fun σ H R => td σ H fun x H1 => ∃ d o kvs, x = .ref d ∧ H1 d = some (.frz o (.dK kvs)) ∧ R (Itd d o kvs) H1
def iItems (td : TE) : TI := fun σ H R => td σ H fun x H1 => ∃ d o kvs, x = .ref d ∧ H1 d = some (.frz o (.dK kvs)) ∧ R (Iti d o kvs) H1
def iKeysM (td : TE) : TI := fun σ H R => td σ H fun x H1 => ∃ d o kvs, x = .ref d ∧ H1 d = some (.frz o (.dK kvs)) ∧ R (Itk d o kvs) H1
section
variable {X : Cx} {tg e : Expr} {td : TE} {apos cpos : Pos}
end



def Ite (K : PySem.W.Frag) (a : Addr) : It :=
  ⟨fun i H => ∃ (xs : List V) (x : V), SqL K H a xs ∧ xs[i]? = some x, fun i H v H' => ∃ T x, v = .ref T ∧ H T = none ∧ H' = upd H T (.tup [.int (i : Nat), x]) ∧ ∀ xs, SqL K H a xs → xs[i]? = some x, fun i H => ∃ xs : List V, SqL K H a xs ∧ xs.length ≤ i⟩
def iEnum (K : PySem.W.Frag) (ta : TA) : TI := fun σ H R => ta σ H fun vs H1 => ∃ a xs, vs = [.ref a] ∧ SqL K H1 a xs ∧ R (Ite K a) H1
def Itz (K : PySem.W.Frag) (a b : Addr) : It :=
  ⟨fun i H => ∃ (xs ys : List V) (x y : V), SqL K H a xs ∧ SqL K H b ys ∧ xs[i]? = some x ∧ ys[i]? = some y,
    fun i H v H' => ∃ T x y, v = .ref T ∧ H T = none ∧ H' = upd H T (.tup [x, y]) ∧ (∀ xs, SqL K H a xs → xs[i]? = some x) ∧ ∀ ys, SqL K H b ys → ys[i]? = some y,
    fun i H => ∃ xs ys : List V, SqL K H a xs ∧ SqL K H b ys ∧ (xs.length ≤ i ∨ ys.length ≤ i)⟩
def iZip (K : PySem.W.Frag) (ta : TA) : TI := fun σ H R => ta σ H fun vs H1 => ∃ a b xs ys, vs = [.ref a, .ref b] ∧ SqL K H1 a xs ∧ SqL K H1 b ys ∧ R (Itz K a b) H1
end L2

section 
namespace Bits
open PySem PyProof.Rows

end Bits
end 

section 
namespace TL
open PySem PySem.Builtin PySem.Builtin.Str PySem.StrLaws

abbrev tl (x : Str) : List Nat := x.cps.toList
def pre (S l : List Nat) : Bool := l.take S.length == S

def spl (S : List Nat) : Nat → List Nat → List Nat → List (List Nat)
  | _, acc, [] => [acc]
  | 0, acc, c :: r => if pre S (c :: r) = true then acc :: spl S (S.length - 1) [] r else spl S 0 (acc ++ [c]) r
  | k + 1, acc, _ :: r => spl S k acc r

def par (S : List Nat) : List Nat → List Nat → Option (List Nat × List Nat)
  | _, [] => none
  | acc, c :: r => if pre S (c :: r) = true then some (acc, (c :: r).drop S.length) else par S (acc ++ [c]) r

def joinL (S : List Nat) : List (List Nat) → List Nat
  | [] => []
  | [p] => p
  | p :: q :: r => p ++ (S ++ joinL S (q :: r))
def numL (n : Nat) : List Nat := (Nat.toDigits 10 n).map Char.toNat
def wstep (st : List (List Nat) × List Nat) (c : Nat) : List (List Nat) × List Nat :=
  if Unicode.isSpace c = true then (if st.2 = [] then st else (st.1 ++ [st.2], [])) else (st.1, st.2 ++ [c])
def wfin (st : List (List Nat) × List Nat) : List (List Nat) := if st.2 = [] then st.1 else st.1 ++ [st.2]
end TL
end 

namespace L2
open PySem PySem.Spec PyProof.Rows

def rNewStrs (ys : List Str) : Hp → VK → Prop := fun H Q => ∀ p, H p = none → Q (.ref p) (upd H p (.lst (ys.map V.str)))

section
variable {X : Cx} {pins : List (Addr × Obj)} {σ : St} {H : Hp} {s : Shared} {Q : VK}
end

section
variable {X : Cx}


end

section
variable {X : Cx} {o e : Expr} {to te : TE}
def tM0 (r : V → List V → Hp → VK → Prop) (to : TE) : TE := fun σ H Q => to σ H fun x H1 => (∃ a, x = .str a) ∧ r x [] H1 Q
def tM1 (r : V → List V → Hp → VK → Prop) (to te : TE) : TE := fun σ H Q => to σ H fun x H1 => (∃ a, x = .str a) ∧ te σ H1 fun y H2 => r x [y] H2 Q
end
end L2

namespace L2
open PySem PySem.Spec PyProof.Rows

section
variable {X : Cx}
end


def clipS (n d : Nat) : Option Int → Int
  | none => (d : Int)
  | some i => max 0 (min (if i < 0 then i + (n : Int) else i) (n : Int))
def cutS (z : Str) (lo hi : Option Int) : Str :=
  ⟨((z.cps.toList.drop (HT.sIx z.length 0 lo)).take (HT.sIx z.length z.length hi - HT.sIx z.length 0 lo)).toArray⟩
def rSlS : V → Option Int → Option Int → Hp → VK → Prop := fun x lo hi H Q => ∃ z, x = .str z ∧ z.length ≤ sizeLine ∧ Q (.str (cutS z lo hi)) H
end L2

namespace Att
open PySem PySem.W PySem.Calls PyProof.Rows


section
variable {prog : Program} {w : World} {A : Around} {E : Value → Shared → Prop} {s : Shared} {K : Frag}


def noObjs (h : Heap) : Heap := { h with objs := #[] }
def ledger (h : Heap) (L d : Addr) : List (Addr × Obj) := (List.range h.objs.size).filterMap fun a => if a = L ∨ a = d then none else (h.get? a).map fun o => (a, o)
end
end Att

namespace L2
open PySem PySem.Spec PyProof.Rows

def Only (H : Hp) : Prop := ∀ b, H b = none ∨ ∃ o xs, H b = some (.frz o (.lst xs))


end L2

namespace L2
open PySem PySem.Spec PyProof.Rows

abbrev KOf {K : PySem.W.Frag} {h : Heap} (_ : K.In h) : PySem.W.Frag := K


end L2




namespace L2
open PySem PySem.Spec PyProof.Rows



def inClass (s : Stmt) (j : Nat) : Stmt := match s with
  | .ClassDef _ _ _ body _ _ _ _ _ _ _ => body.getD j (.Pass ⟨0, 0, 0, 0⟩)
  | _ => .Pass ⟨0, 0, 0, 0⟩
def defArgs (s : Stmt) : Arguments := match s with
  | .FunctionDef _ a _ _ _ _ _ _ _ _ => a
  | _ => { posonlyargs := [], args := [], vararg := none, kwonlyargs := [], kw_defaults := [], kwarg := none, defaults := [] }
def defBody (s : Stmt) : List Stmt := match s with
  | .FunctionDef _ _ b _ _ _ _ _ _ _ => b
  | _ => []
def defScope (s : Stmt) : Scope := match s with
  | .FunctionDef _ _ _ _ _ _ sc _ _ _ => sc
  | _ => { kind := .function, names := [], isGenerator := false, isCoroutine := false }


abbrev CX0 : CXT := fun _ _ _ _ _ _ => False
abbrev E0 : XK := fun _ _ _ => False
theorem pass0 {X : Cx} : Passes CX0 X E0 := fun _ _ _ _ _ _ _ h => h.elim


structure Fun (K : PySem.W.Frag) (x qual : Str) (st : Stmt) (f : Addr) (fd : FuncData) : Prop where
  ex : ∃ (oc : Value) (od : Option Addr) (kV doc pm : Value) (an : Option Addr) (cdv ct : Value) (osl : Array (Option Value)),
    fd = PySem.W.fnOf x qual (defArgs st) (defBody st) (defScope st) .none kV doc pm an cdv ct ∧ K.lookup f = some ⟨oc, od, .func fd, osl⟩ ∧ PySem.W.codeIn K cdv qual = true
  kp : PySem.W.keepIn K (.ref f) = true
section
variable {P : Program} {w : World} {K : PySem.W.Frag} {mg : Str → Option Value} {base : Heap}

theorem Fun.ok {x qual : Str} {st : Stmt} {f : Addr} {fd : FuncData} {N ps : List Str} {k : Nat} {sp : Sp} (F : Fun K x qual st f fd) (S : FnScope N ps (defScope st)) (len : ∀ vs H Q E, sp vs H Q E → vs.length = ps.length)
    (hbody : ∀ (cdv : Value) (A : Around) (outer : List Env) (s : Shared) (H : Hp) (vs : List V) (Q : VK) (E : XK), Room k (A.deeper (envOfC qual (defScope st) s.heap.objs.size f cdv)) → sp vs H Q E →
      ∃ t, PSs (cxOf CX0 P w K mg base N qual (defScope st) f cdv A outer s H E).nox (defBody st) t ∧ t { nx := fun _ H' => Q .non H', rt := Q } (start N vs) H) : FnOk P w K mg base CX0 (k + 1) f fd ps sp := by
  obtain ⟨oc, od, kV, doc, pm, an, cdv, ct, osl, rfl, lk, hcd⟩ := F.ex
  refine fn_of lk hcd S len fun A outer s H vs Q E hr hsp => ?_
  obtain ⟨t, h, q⟩ := hbody cdv A outer s H vs Q E hr hsp
  exact ⟨t, h.nox, q⟩

theorem Fun.binds {x qual : Str} {st : Stmt} {f : Addr} {fd : FuncData} {ps : List Str} (F : Fun K x qual st f fd)
    (h : ∀ (kV doc pm : Value) (an : Option Addr) (cdv ct : Value) (us : List Value), us.length = ps.length → bindArgs (PySem.W.fnOf x qual (defArgs st) (defBody st) (defScope st) .none kV doc pm an cdv ct) ⟨us, []⟩ = pure (ps.zip us)) : Binds K fd ps [] := by
  obtain ⟨oc, od, kV, doc, pm, an, cdv, ct, osl, rfl, lk, hcd⟩ := F.ex
  exact .all (h kV doc pm an cdv ct)
theorem fun_mk {x qual : Str} {st : Stmt} {f : Addr} {oc : Value} {od an : Option Addr} {osl : Array (Option Value)} {kV doc pm cdv ct : Value} (l : K.lookup f = some ⟨oc, od, .func (PySem.W.fnOf x qual (defArgs st) (defBody st) (defScope st) .none kV doc pm an cdv ct), osl⟩)
    (c : PySem.W.codeIn K cdv qual = true) (k : PySem.W.keepIn K (.ref f) = true) : Fun K x qual st f (PySem.W.fnOf x qual (defArgs st) (defBody st) (defScope st) .none kV doc pm an cdv ct) := ⟨⟨oc, od, kV, doc, pm, an, cdv, ct, osl, rfl, l, c⟩, k⟩
end
section
variable {X : Cx}
theorem pv (i : Nat) {x : Str} {pos : Pos} (hN : X.N[i]? = some x := by rfl) (hv : Vis X.env.scope x := by first | exact Or.inl rfl | exact Or.inr (Or.inl rfl) | exact Or.inr (Or.inr rfl)) (hd : (x == ("__debug__" : Str)) = false := by decide)
    (hcd : (x == ("__classdict__" : Str)) = false := by decide) : PE X (.Name x pos) (tVar i) := pe_var hN hv hd hcd

end


theorem iteF {A B : Prop} (h : B) : if false = true then A else B := by
  rw [if_neg Bool.false_ne_true]
  exact h
theorem iteT {A B : Prop} (h : A) : if true = true then A else B := by
  rw [if_pos rfl]
  exact h
theorem ite2 {c A B : Prop} [Decidable c] (h1 : c → A) (h2 : ¬ c → B) : if c then A else B := by
  by_cases h : c
  · rw [if_pos h]
    exact h1 h
  · rw [if_neg h]
    exact h2 h
def Same (H H' : Hp) : Prop := ∀ b o, H b = some o → H' b = some o
theorem Same.refl (H : Hp) : Same H H := fun _ _ h => h
theorem Same.free {H H' : Hp} (e : Same H H') {l : Addr} (h : H' l = Option.none) : H l = Option.none := by
  cases q : H l with
  | none => rfl
  | some o =>
    rw [e l o q] at h
    cases h
section
variable {κ : Type} [DecidableEq κ]
end

theorem at_of {xs : List V} {z : Int} {j : Nat} {v : V} (e : z = (j : Int)) (h : xs[j]? = some v) : atI xs z = some v := by
  rw [e]
  exact atI_nat h
end L2
end

section
set_option Elab.async false
set_option linter.all false
set_option maxRecDepth 100000
section
set_option Elab.async false
set_option linter.all false
set_option maxRecDepth 100000
set_option maxHeartbeats 2000000
namespace L2
open PySem PySem.Spec PyProof.Rows
open PySem.W (WData Codec OpenSpec Well WellAll ReadsW ReadsAllW)

mutual

inductive Dw (K : PySem.W.Frag) (H : Hp) : V → WData → Prop
  | non : Dw K H .non .none
  | bl (b : Bool) : Dw K H (.bl b) (.bool b)
  | int (i : Int) : Dw K H (.int i) (.int i)
  | str (x : Str) : Dw K H (.str x) (.str x)
  | byt (b : Array UInt8) : Dw K H (.byt b) (.bytes b.toList)
  | lst {a : Addr} {xs : List V} {ds : List WData} : SqL K H a xs → DwAll K H xs ds → Dw K H (.ref a) (.list ds)
  | tup {a : Addr} {xs : List V} {ds : List WData} : SqT K H a xs → DwAll K H xs ds → Dw K H (.ref a) (.tuple ds)
inductive DwAll (K : PySem.W.Frag) (H : Hp) : List V → List WData → Prop
  | nil : DwAll K H [] []
  | cons {v : V} {vs : List V} {d : WData} {ds : List WData} : Dw K H v d → DwAll K H vs ds → DwAll K H (v :: vs) (d :: ds)
end
theorem dw_ints {K : PySem.W.Frag} {H : Hp} : ∀ ns : List Int, DwAll K H (ns.map V.int) (ns.map WData.int)
  | [] => .nil
  | n :: r => .cons (.int n) (dw_ints r)
theorem ints_dw {K : PySem.W.Frag} {H : Hp} : ∀ (ns : List Int) (xs : List V), DwAll K H xs (ns.map WData.int) → xs = ns.map V.int
  | [], xs, h => by
    cases h
    rfl
  | n :: r, xs, h => by
    cases h with
    | cons h1 h2 =>
      cases h1
      rw [ints_dw r _ h2] <;> rfl
section
variable {P : Program} {w : World} {K : PySem.W.Frag} {H : Hp} {h : Heap} {R : PySem.W.WRecords} {cl : Str → Option Addr}
theorem sqL_at {a : Addr} {xs : List V} (hok : HOk P w H h) (KX : K.In h) (q : SqL K H a xs) : ∃ (its : List Value) (o : Obj) (n : Nat), Vals xs its ∧ h.get? a = some o ∧ o.cls = .type "list" ∧ o.data = .seq its.toArray n := by
  rcases q with q | ⟨o, its, n, e, hc, _, hd, _, hv⟩
  · obtain ⟨_, its, n, hv, e⟩ := (show ObjOk P w H h a (.lst xs) from q.ok hok)
    exact ⟨its, _, n, hv, e, rfl, rfl⟩
  · exact ⟨its.toList, o, n, hv, KX _ _ e, hc, by simp [hd]⟩
theorem sqT_at {a : Addr} {xs : List V} (hok : HOk P w H h) (KX : K.In h) (q : SqT K H a xs) : ∃ (its : List Value) (o : Obj) (n : Nat), Vals xs its ∧ h.get? a = some o ∧ o.cls = .type "tuple" ∧ o.data = .seq its.toArray n := by
  rcases q with q | ⟨o, its, n, e, hc, hd, _, hv⟩
  · obtain ⟨_, its, hv, o, e, hc, n, hd⟩ := (show ObjOk P w H h a (.tup xs) from q.ok hok)
    exact ⟨its, o, n, hv, e, hc, hd⟩
  · exact ⟨its.toList, o, n, hv, KX _ _ e, hc, by simp [hd]⟩
mutual
theorem Dw.reads (hok : HOk P w H h) (KX : K.In h) : ∀ (d : WData) (v : V) (u : Value), Dw K H v d → RelV v u → ∃ as, ReadsW R cl h u d as
  | .none, _, _, x, r => by
    cases x
    cases r
    exact ⟨_, ReadsW.none⟩
  | .bool b, _, _, x, r => by
    cases x
    cases r
    exact ⟨_, ReadsW.bool b⟩
  | .int i, _, _, x, r => by
    cases x
    obtain ⟨t, rfl⟩ := r
    exact ⟨_, ReadsW.int i t⟩
  | .str s, _, _, x, r => by
    cases x
    obtain ⟨t, rfl⟩ := r
    exact ⟨_, ReadsW.str s t⟩
  | .bytes b, _, _, x, r => by
    cases x
    obtain ⟨t, rfl⟩ := r
    exact ⟨_, ReadsW.bytes _ t⟩
  | .list ds, _, _, x, r => by
    cases x with
    | lst hs ha =>
      cases r
      obtain ⟨its, o, n, rv, ho, hc, hd⟩ := sqL_at hok KX hs
      obtain ⟨as, hr⟩ := Dw.readsAll hok KX ds _ its ha rv
      exact ⟨_, ReadsW.list ho hc hd hr⟩
  | .tuple ds, _, _, x, r => by
    cases x with
    | tup hs ha =>
      cases r
      obtain ⟨its, o, n, rv, ho, hc, hd⟩ := sqT_at hok KX hs
      obtain ⟨as, hr⟩ := Dw.readsAll hok KX ds _ its ha rv
      exact ⟨_, ReadsW.tuple ho hc hd hr⟩
  | .float _, _, _, x, _ => by cases x
  | .dict _, _, _, x, _ => by cases x
  | .bytearray _, _, _, x, _ => by cases x
  | .set _, _, _, x, _ => by cases x
  | .frozenset _, _, _, x, _ => by cases x
  | .obj _ _, _, _, x, _ => by cases x
theorem Dw.readsAll (hok : HOk P w H h) (KX : K.In h) : ∀ (ds : List WData) (vs : List V) (us : List Value), DwAll K H vs ds → Vals vs us → ∃ as, ReadsAllW R cl h us ds as
  | [], _, _, x, r => by
    cases x
    cases r
    exact ⟨_, ReadsAllW.nil⟩
  | d :: ds, _, _, x, r => by
    cases x with
    | cons h1 h2 =>
      cases r with
      | cons r1 r2 =>
        obtain ⟨as, q1⟩ := Dw.reads hok KX d _ _ h1 r1
        obtain ⟨bs, q2⟩ := Dw.readsAll hok KX ds _ _ h2 r2
        exact ⟨_, ReadsAllW.cons q1 q2⟩
end
end

mutual

def plW : WData → Bool
  | .none => true
  | .bool _ => true
  | .int _ => true
  | .str _ => true
  | .bytes _ => true
  | .list xs => plWs xs
  | .tuple xs => plWs xs
  | _ => false
def plWs : List WData → Bool
  | [] => true
  | x :: r => plW x && plWs r
end
theorem plWs_map {α : Type} {f : α → WData} (h : ∀ a, plW (f a) = true) : ∀ l : List α, plWs (l.map f) = true
  | [] => rfl
  | x :: r => by
    show (plW (f x) && plWs (r.map f)) = true
    rw [h x, plWs_map h r] <;> rfl
theorem pl_enc : ∀ (c : Codec) (a : c.denote), plW (c.enc a) = true
  | .unit, _ => rfl
  | .bool, _ => rfl
  | .int _ _, _ => rfl
  | .nat _ _, _ => rfl
  | .u8, _ => rfl
  | .bytes _ _, _ => rfl
  | .text _ _ _ _, _ => rfl
  | .list _ _ c, a => plWs_map (fun x => pl_enc c x) a
  | .pair c d, a => by
    show (plW (c.enc a.1) && (plW (d.enc a.2) && true)) = true
    rw [pl_enc c a.1, pl_enc d a.2] <;> rfl
  | .triple c d e, a => by
    show (plW (c.enc a.1) && (plW (d.enc a.2.1) && (plW (e.enc a.2.2) && true))) = true
    rw [pl_enc c a.1, pl_enc d a.2.1, pl_enc e a.2.2] <;> rfl
  | .option c, none => rfl
  | .option c, some x => pl_enc c x
theorem pl_encAll : ∀ (cs : List Codec) (a : Codec.denoteAll cs), plWs (Codec.encAll cs a) = true
  | [], _ => rfl
  | c :: cs, a => by
    show (plW (c.enc a.1) && plWs (Codec.encAll cs a.2)) = true
    rw [pl_enc c a.1, pl_encAll cs a.2] <;> rfl
theorem weight_mem : ∀ {xs : List WData} {d : WData}, d ∈ xs → d.weight ≤ WData.weightAll xs
  | [], d, h => absurd h (by simp)
  | x :: r, d, h => by
    show d.weight ≤ x.weight + 1 + WData.weightAll r
    rcases List.mem_cons.mp h with e | m
    · rw [e]
      omega
    · have z := weight_mem m
      omega
def toV : Value → V
  | .none => .non
  | .bool b => .bl b
  | .int i _ => .int i
  | .str x _ => .str x
  | .bytes b _ => .byt b
  | .ref a => .ref a
  | _ => .non

def OkU (A : List Addr) : Value → Prop
  | .none => True
  | .bool _ => True
  | .int _ _ => True
  | .str _ _ => True
  | .bytes _ _ => True
  | .ref a => a ∈ A
  | _ => False
theorem OkU.mono {A B : List Addr} (h : ∀ a ∈ A, a ∈ B) : ∀ {u : Value}, OkU A u → OkU B u := fun {u} x => by
  cases u with
  | ref a => exact h a x
  | none => trivial
  | bool b => trivial
  | int i t => trivial
  | str s t => trivial
  | bytes b t => trivial
  | _ => exact False.elim x
theorem relV_toV {A : List Addr} {u : Value} (x : OkU A u) : RelV (toV u) u := by
  cases u with
  | ref a => rfl
  | none => rfl
  | bool b => rfl
  | int i t => exact ⟨t, rfl⟩
  | str s t => exact ⟨t, rfl⟩
  | bytes b t => exact ⟨t, rfl⟩
  | _ => exact False.elim x
theorem vals_toV {A : List Addr} : ∀ {vs : List Value}, (∀ u ∈ vs, OkU A u) → Vals (vs.map toV) vs
  | [], _ => .nil
  | u :: r, h => .cons (relV_toV (h u (List.mem_cons_self ..))) (vals_toV fun x hx => h x (List.mem_cons_of_mem _ hx))

def ArgOb (h : Heap) (A : List Addr) (a : Addr) : Prop := ∃ vs : List Value, vs.length ≤ sizeLine ∧ (∀ u ∈ vs, OkU A u) ∧
  (h.get? a = some { cls := .type "list", data := .seq vs.toArray } ∨ h.get? a = some { cls := .type "tuple", data := .seq vs.toArray })
theorem ArgOb.mono {h : Heap} {A B : List Addr} {a : Addr} (k : ∀ a ∈ A, a ∈ B) (x : ArgOb h A a) : ArgOb h B a := by
  obtain ⟨vs, h1, h2, h3⟩ := x
  exact ⟨vs, h1, fun u hu => (h2 u hu).mono k, h3⟩
theorem wellAll_len {P : Params} {h : Heap} : ∀ {vs : List Value} {ds : List WData}, WellAll P h vs ds → vs.length = ds.length
  | _, _, .nil => rfl
  | _, _, .cons _ b => by
    show _ + 1 = _ + 1
    rw [wellAll_len b]
theorem well_list {P : Params} {h : Heap} {v : Value} {ds : List WData} (x : Well P h v (.list ds)) : ∃ (a : Addr) (vs : List Value), v = .ref a ∧ h.get? a = some { cls := .type "list", data := .seq vs.toArray } ∧ WellAll P h vs ds := by
  cases x with
  | list ho hall => exact ⟨_, _, rfl, ho, hall⟩
theorem well_tuple {P : Params} {h : Heap} {v : Value} {ds : List WData} (x : Well P h v (.tuple ds)) : ∃ (a : Addr) (vs : List Value), v = .ref a ∧ h.get? a = some { cls := .type "tuple", data := .seq vs.toArray } ∧ WellAll P h vs ds := by
  cases x with
  | tuple ho hall => exact ⟨_, _, rfl, ho, hall⟩
theorem well_cons {P : Params} {h : Heap} {us : List Value} {d : WData} {ds : List WData} (x : WellAll P h us (d :: ds)) : ∃ (v : Value) (vs : List Value), us = v :: vs ∧ Well P h v d ∧ WellAll P h vs ds := by
  cases x with
  | cons a b => exact ⟨_, _, rfl, a, b⟩
theorem line_of {n : Nat} (h : n ≤ 1048576) : n ≤ sizeLine := Nat.le_trans h (by decide)
section
variable {P : Params} {h : Heap}
mutual
theorem area_one : ∀ (d : WData) (v : Value), Well P h v d → plW d = true → d.weight ≤ 1048576 → ∃ A : List Addr, OkU A v ∧ ∀ a ∈ A, ArgOb h A a
  | .none, _, x, _, _ => by
    cases x
    exact ⟨[], trivial, fun a m => absurd m (by simp)⟩
  | .bool b, _, x, _, _ => by
    cases x
    exact ⟨[], trivial, fun a m => absurd m (by simp)⟩
  | .int i, _, x, _, _ => by
    cases x
    exact ⟨[], trivial, fun a m => absurd m (by simp)⟩
  | .str s, _, x, _, _ => by
    cases x
    exact ⟨[], trivial, fun a m => absurd m (by simp)⟩
  | .bytes b, _, x, _, _ => by
    cases x
    exact ⟨[], trivial, fun a m => absurd m (by simp)⟩
  | .list ds, _, x, p, z => by
    obtain ⟨a, vs, rfl, ho, hall⟩ := well_list x
    have z2 : WData.weightAll ds ≤ 1048576 := z
    obtain ⟨A, h1, h2⟩ := area_all ds _ hall p fun d hd => Nat.le_trans (weight_mem hd) z2
    have k : ∀ b ∈ A, b ∈ a :: A := fun b hb => List.mem_cons_of_mem _ hb
    refine ⟨a :: A, List.mem_cons_self .., fun b hb => ?_⟩
    rcases List.mem_cons.mp hb with e | m
    · rw [e]
      exact ⟨vs, line_of (by rw [wellAll_len hall]; exact Nat.le_trans (PySem.W.length_le_weightAllW ds) z2), fun u hu => (h1 u hu).mono k, .inl ho⟩
    · exact (h2 b m).mono k
  | .tuple ds, _, x, p, z => by
    obtain ⟨a, vs, rfl, ho, hall⟩ := well_tuple x
    have z2 : WData.weightAll ds ≤ 1048576 := z
    obtain ⟨A, h1, h2⟩ := area_all ds _ hall p fun d hd => Nat.le_trans (weight_mem hd) z2
    have k : ∀ b ∈ A, b ∈ a :: A := fun b hb => List.mem_cons_of_mem _ hb
    refine ⟨a :: A, List.mem_cons_self .., fun b hb => ?_⟩
    rcases List.mem_cons.mp hb with e | m
    · rw [e]
      exact ⟨vs, line_of (by rw [wellAll_len hall]; exact Nat.le_trans (PySem.W.length_le_weightAllW ds) z2), fun u hu => (h1 u hu).mono k, .inr ho⟩
    · exact (h2 b m).mono k
  | .float _, _, _, p, _ => Bool.noConfusion (show false = true from p)
  | .dict _, _, _, p, _ => Bool.noConfusion (show false = true from p)
  | .bytearray _, _, _, p, _ => Bool.noConfusion (show false = true from p)
  | .set _, _, _, p, _ => Bool.noConfusion (show false = true from p)
  | .frozenset _, _, _, p, _ => Bool.noConfusion (show false = true from p)
  | .obj _ _, _, _, p, _ => Bool.noConfusion (show false = true from p)
theorem area_all : ∀ (ds : List WData) (vs : List Value), WellAll P h vs ds → plWs ds = true → (∀ d ∈ ds, d.weight ≤ 1048576) → ∃ A : List Addr, (∀ u ∈ vs, OkU A u) ∧ ∀ a ∈ A, ArgOb h A a
  | [], _, x, _, _ => by
    cases x
    exact ⟨[], fun u m => absurd m (by simp), fun a m => absurd m (by simp)⟩
  | d :: ds, _, x, p, z => by
    obtain ⟨v, vs, rfl, x1, x2⟩ := well_cons x
    have q : plW d = true ∧ plWs ds = true := Bool.and_eq_true_iff.mp p
    obtain ⟨A, a1, a2⟩ := area_one d v x1 q.1 (z d (List.mem_cons_self ..))
    obtain ⟨B, b1, b2⟩ := area_all ds vs x2 q.2 fun e he => z e (List.mem_cons_of_mem _ he)
    have kA : ∀ b ∈ A, b ∈ A ++ B := fun b hb => List.mem_append.mpr (.inl hb)
    have kB : ∀ b ∈ B, b ∈ A ++ B := fun b hb => List.mem_append.mpr (.inr hb)
    refine ⟨A ++ B, fun u hu => ?_, fun b hb => ?_⟩
    · rcases List.mem_cons.mp hu with e | m
      · rw [e]
        exact a1.mono kA
      · exact (b1 u m).mono kB
    · rcases List.mem_append.mp hb with m | m
      · exact (a2 b m).mono kA
      · exact (b2 b m).mono kB
end
end

def hoOf (o : Obj) : Option HO := match o.data with
  | .seq vs _ => if (o.cls == Value.type "list") = true then some (.frz o (.lst (vs.toList.map toV))) else some (.frz o (.tup (vs.toList.map toV)))
  | _ => none
def argH (K : PySem.W.Frag) (h : Heap) (A : List Addr) : Hp := fun b => if b ∈ A then (if (K.lookup b).isNone = true then (h.get? b).bind hoOf else none) else none

def OnlyF (H : Hp) : Prop := ∀ b, H b = none ∨ ∃ o u, H b = some (.frz o u)
theorem hoOf_lst (vs : List Value) : hoOf { cls := .type "list", data := .seq vs.toArray } = some (.frz { cls := .type "list", data := .seq vs.toArray } (.lst (vs.map toV))) := by
  show (if (Value.type "list" == Value.type "list") = true then some (HO.frz { cls := .type "list", data := .seq vs.toArray } (.lst (vs.toArray.toList.map toV))) else some (HO.frz { cls := .type "list", data := .seq vs.toArray } (.tup (vs.toArray.toList.map toV)))) = _
  rw [if_pos (beq_self_eq_true _)]
theorem hoOf_tup (vs : List Value) : hoOf { cls := .type "tuple", data := .seq vs.toArray } = some (.frz { cls := .type "tuple", data := .seq vs.toArray } (.tup (vs.map toV))) := by
  show (if (Value.type "tuple" == Value.type "list") = true then some (HO.frz { cls := .type "tuple", data := .seq vs.toArray } (.lst (vs.toArray.toList.map toV))) else some (HO.frz { cls := .type "tuple", data := .seq vs.toArray } (.tup (vs.toArray.toList.map toV)))) = _
  rw [if_neg (by decide)]
section
variable {P : Program} {w : World} {K : PySem.W.Frag} {h : Heap} {A : List Addr}
theorem argH_at {b : Addr} {o : Obj} (hb : b ∈ A) (hk : K.lookup b = none) (e : h.get? b = some o) : argH K h A b = hoOf o := by
  unfold argH
  rw [if_pos hb, hk, if_pos (show (none : Option Obj).isNone = true from rfl), e] <;> rfl
theorem of_argH {b : Addr} {u : HO} (q : argH K h A b = some u) : b ∈ A ∧ K.lookup b = none := by
  unfold argH at q
  by_cases hb : b ∈ A
  · rw [if_pos hb] at q
    cases hk : K.lookup b with
    | none => exact ⟨hb, rfl⟩
    | some o =>
      rw [hk, if_neg (by simp)] at q
      cases q
  · rw [if_neg hb] at q
    cases q

theorem argH_is (ar : ∀ a ∈ A, ArgOb h A a) {b : Addr} {u : HO} (q : argH K h A b = some u) : K.lookup b = none ∧ ∃ vs : List Value, vs.length ≤ sizeLine ∧ (∀ u ∈ vs, OkU A u) ∧
    ((h.get? b = some { cls := .type "list", data := .seq vs.toArray } ∧ u = .frz { cls := .type "list", data := .seq vs.toArray } (.lst (vs.map toV))) ∨
     (h.get? b = some { cls := .type "tuple", data := .seq vs.toArray } ∧ u = .frz { cls := .type "tuple", data := .seq vs.toArray } (.tup (vs.map toV)))) := by
  obtain ⟨hb, hk⟩ := of_argH q
  obtain ⟨vs, h1, h2, h3⟩ := ar b hb
  refine ⟨hk, vs, h1, h2, ?_⟩
  rcases h3 with e | e
  · rw [argH_at hb hk e, hoOf_lst] at q
    exact .inl ⟨e, (Option.some.inj q).symm⟩
  · rw [argH_at hb hk e, hoOf_tup] at q
    exact .inr ⟨e, (Option.some.inj q).symm⟩
theorem argH_only (ar : ∀ a ∈ A, ArgOb h A a) : OnlyF (argH K h A) := fun b => by
  cases q : argH K h A b with
  | none => exact .inl rfl
  | some u =>
    obtain ⟨_, vs, _, _, ⟨_, e⟩ | ⟨_, e⟩⟩ := argH_is ar q
    · exact .inr ⟨_, _, by rw [e]⟩
    · exact .inr ⟨_, _, by rw [e]⟩
theorem argH_ok (ar : ∀ a ∈ A, ArgOb h A a) : HOk P w (argH K h A) h := fun b u q => by
  obtain ⟨_, vs, h1, h2, ⟨e, rfl⟩ | ⟨e, rfl⟩⟩ := argH_is ar q
  · exact ⟨e, by rw [List.length_map]; exact h1, vs, _, vals_toV h2, e⟩
  · exact ⟨e, by rw [List.length_map]; exact h1, vs, vals_toV h2, _, e, rfl, _, rfl⟩
theorem seq_inj {c c' : Value} {vs us : List Value} (e : (some { cls := c, data := .seq vs.toArray } : Option Obj) = some { cls := c', data := .seq us.toArray }) : c = c' ∧ vs = us := by
  have e1 := Option.some.inj e
  have e2 : c = c' := congrArg Obj.cls e1
  have e3 : Data.seq vs.toArray = Data.seq us.toArray := congrArg Obj.data e1
  injection e3 with e4
  refine ⟨e2, ?_⟩
  have e5 := congrArg Array.toList e4
  simpa using e5

theorem argL (KX : K.In h) (ar : ∀ a ∈ A, ArgOb h A a) {a : Addr} {vs : List Value} (ha : a ∈ A) (e : h.get? a = some { cls := .type "list", data := .seq vs.toArray }) : (∀ u ∈ vs, OkU A u) ∧ SqL K (argH K h A) a (vs.map toV) := by
  obtain ⟨us, h1, h2, h3⟩ := ar a ha
  have hu : us = vs := by
    rcases h3 with q | q
    · rw [e] at q
      exact (seq_inj q).2.symm
    · rw [e] at q
      exact absurd (Value.type.inj (seq_inj q).1) (by decide)
  subst hu
  refine ⟨h2, ?_⟩
  cases hk : K.lookup a with
  | none => exact .inl (.inr ⟨_, by rw [argH_at ha hk e, hoOf_lst]⟩)
  | some o =>
    have e2 := KX a o hk
    rw [e] at e2
    obtain rfl := Option.some.inj e2
    exact .inr ⟨_, us.toArray, _, hk, rfl, rfl, rfl, by rw [List.size_toArray]; exact h1, by simpa using vals_toV h2⟩
theorem argT (KX : K.In h) (ar : ∀ a ∈ A, ArgOb h A a) {a : Addr} {vs : List Value} (ha : a ∈ A) (e : h.get? a = some { cls := .type "tuple", data := .seq vs.toArray }) : (∀ u ∈ vs, OkU A u) ∧ SqT K (argH K h A) a (vs.map toV) := by
  obtain ⟨us, h1, h2, h3⟩ := ar a ha
  have hu : us = vs := by
    rcases h3 with q | q
    · rw [e] at q
      exact absurd (Value.type.inj (seq_inj q).1) (by decide)
    · rw [e] at q
      exact (seq_inj q).2.symm
  subst hu
  refine ⟨h2, ?_⟩
  cases hk : K.lookup a with
  | none => exact .inl (.inr ⟨_, by rw [argH_at ha hk e, hoOf_tup]⟩)
  | some o =>
    have e2 := KX a o hk
    rw [e] at e2
    obtain rfl := Option.some.inj e2
    exact .inr ⟨_, us.toArray, _, hk, rfl, rfl, by rw [List.size_toArray]; exact h1, by simpa using vals_toV h2⟩
mutual
theorem dw_one {Pm : Params} (KX : K.In h) (ar : ∀ a ∈ A, ArgOb h A a) : ∀ (d : WData) (v : Value), Well Pm h v d → plW d = true → OkU A v → Dw K (argH K h A) (toV v) d
  | .none, _, x, _, _ => by
    cases x
    exact .non
  | .bool b, _, x, _, _ => by
    cases x
    exact .bl b
  | .int i, _, x, _, _ => by
    cases x
    exact .int i
  | .str s, _, x, _, _ => by
    cases x
    exact .str s
  | .bytes b, _, x, _, _ => by
    cases x
    have z := Dw.byt (K := K) (H := argH K h A) b.toArray
    exact z
  | .list ds, _, x, p, hu => by
    obtain ⟨a, vs, rfl, ho, hall⟩ := well_list x
    obtain ⟨h2, hs⟩ := argL KX ar hu ho
    exact .lst hs (dw_all KX ar ds _ hall p h2)
  | .tuple ds, _, x, p, hu => by
    obtain ⟨a, vs, rfl, ho, hall⟩ := well_tuple x
    obtain ⟨h2, hs⟩ := argT KX ar hu ho
    exact .tup hs (dw_all KX ar ds _ hall p h2)
  | .float _, _, _, p, _ => Bool.noConfusion (show false = true from p)
  | .dict _, _, _, p, _ => Bool.noConfusion (show false = true from p)
  | .bytearray _, _, _, p, _ => Bool.noConfusion (show false = true from p)
  | .set _, _, _, p, _ => Bool.noConfusion (show false = true from p)
  | .frozenset _, _, _, p, _ => Bool.noConfusion (show false = true from p)
  | .obj _ _, _, _, p, _ => Bool.noConfusion (show false = true from p)
theorem dw_all {Pm : Params} (KX : K.In h) (ar : ∀ a ∈ A, ArgOb h A a) : ∀ (ds : List WData) (vs : List Value), WellAll Pm h vs ds → plWs ds = true → (∀ u ∈ vs, OkU A u) → DwAll K (argH K h A) (vs.map toV) ds
  | [], _, x, _, _ => by
    cases x
    exact .nil
  | d :: ds, _, x, p, hu => by
    obtain ⟨v, vs, rfl, x1, x2⟩ := well_cons x
    have q : plW d = true ∧ plWs ds = true := Bool.and_eq_true_iff.mp p
    exact .cons (dw_one KX ar d v x1 q.1 (hu _ (List.mem_cons_self ..))) (dw_all KX ar ds vs x2 q.2 fun u m => hu u (List.mem_cons_of_mem _ m))
end
end

theorem spec_call {P : Program} {w : World} {K : PySem.W.Frag} {mg mb : Str → Option Value} {CX : CXT} {k : Nat} {fa : Addr} {fd : FuncData} {ps : List Str} {sp : Sp} {s₁ : Shared} {vals : List Value} {ds : List WData} {R : PySem.W.WRecords} {cl : Str → Option Addr} {d0 : WData}
    (KX : K.In s₁.heap) (hns : s₁.heap.Ns mainGlobals mg) (hb : s₁.heap.Ns builtinsNs mb) (hbb : ∀ x : Str, x ≠ "__name__" → mb x = bootBuiltins x) (hlim : s₁.heap.NoLimit) (hg : s₁.gens = #[])
    (hwl : WellAll w.params s₁.heap vals ds) (hpl : plWs ds = true) (hwt : ∀ d ∈ ds, d.weight ≤ 1048576) (hr : Room k callerA)
    (F : ∀ base : Heap, K.In base → base.Ns mainGlobals mg → FnOk P w K mg base CX k fa fd ps sp) (hbind : ∀ (s : Shared) (us : List Value), us.length = ps.length → BindsTo s fd ⟨us, []⟩ (ps.zip us)) (hlen : ds.length = ps.length)
    (hsp : ∀ (H : Hp) (xs : List V), OnlyF H → DwAll K H xs ds → sp xs H (fun v H' => Dw K H' v d0) fun _ _ _ => False)
    (hCX : ∀ H e s', CX [] H s₁ (fun _ _ _ => False) e s' → False) :
    codeAny (model P w) callerA (.call (.ref fa) ⟨vals, []⟩) (fun r s' => ∃ u as, r = .ok (.ret u) ∧ ReadsW R cl s'.heap u d0 as ∧ OldK s₁.heap s'.heap ∧ s'.os = s₁.os ∧ AllBare s'.gens) s₁ := by
  obtain ⟨A, ho, ar⟩ := area_all ds vals hwl hpl hwt
  have hO : OnlyF (argH K s₁.heap A) := argH_only ar
  have hok : HOk P w (argH K s₁.heap A) s₁.heap := argH_ok ar
  have hS := dw_all KX ar ds vals hwl hpl ho
  have hV := vals_toV ho
  have hK : ∀ b u, argH K s₁.heap A b = some u → K.lookup b = none := fun b u q => (argH_is ar q).1
  have noA : ∀ {b : Addr} {o : Obj} {es : Array DictEntry} {ep : Nat}, s₁.heap.get? b = some o → o.data = .dict es ep → argH K s₁.heap A b = none := fun {b o es ep} e d => by
    cases q : argH K s₁.heap A b with
    | none => rfl
    | some u =>
      obtain ⟨_, vs, _, _, ⟨e2, _⟩ | ⟨e2, _⟩⟩ := argH_is ar q
      · rw [e2] at e
        cases e
        have d' : Data.seq vs.toArray _ = Data.dict es ep := d
        cases d'
      · rw [e2] at e
        cases e
        have d' : Data.seq vs.toArray _ = Data.dict es ep := d
        cases d'
  generalize argH K s₁.heap A = H at hO hok hS hK noA
  have base_of : ∀ {b : Addr} {o : Obj}, s₁.heap.get? b = some o → H b = none → (hidT s₁.heap H).get? b = some o := fun e n => hidT_get e n
  have nsK : ∀ {b : Addr} {m : Str → Option Value}, s₁.heap.Ns b m → (hidT s₁.heap H).Ns b m := fun {b m} ⟨o, es, ep, e, d, r⟩ => ⟨o, es, ep, base_of e (noA e d), d, r⟩
  have nK : ∀ b o, K.lookup b = some o → H b = none := fun b o e => by
    cases q : H b with
    | none => rfl
    | some u =>
      rw [hK b u q] at e
      cases e
  have hKb : K.In (hidT s₁.heap H) := fun b o e => base_of (KX b o e) (nK b o e)
  have hM : Mod K mg (hidT s₁.heap H) := ⟨hKb, nsK hns, ⟨mb, nsK hb, hbb⟩, let ⟨mc, h1, h2⟩ := hlim; ⟨mc, nsK h1, h2⟩⟩
  have e0 : Env0 P w K mg (hidT s₁.heap H) callerA [] s₁ H := ⟨rfl, hM, fun b o e => of_hidT e, Nat.le_of_eq (hidT_size _ _), trivial, fun b hb => absurd (show b ∈ ([] : List Addr) from hb) (by simp), hok, .of_eq hg⟩
  have hl : vals.length = ps.length := by rw [wellAll_len hwl]; exact hlen
  refine codeAny_mono ((F _ hKb (nsK hns)).run callerA [] s₁ H ⟨vals, []⟩ vals (vals.map toV) _ _ hr e0 (hbind s₁ vals hl) hV (hsp H _ hO hS)) fun r s' x => ?_
  cases r with
  | error e => exact (hCX H e s' x).elim
  | ok fl =>
    cases fl with
    | next => exact False.elim x
    | brk => exact False.elim x
    | cont => exact False.elim x
    | ret u =>
      obtain ⟨v, H', os, bare, un, hok', r', q⟩ := x
      have kept : ∀ b o, s₁.heap.get? b = some o → s'.heap.get? b = some o := fun b o e => by
        cases q2 : H b with
        | none => exact un.keep b o e q2 (by intro z; exact absurd (show b ∈ ([] : List Addr) from z) (by simp)) (by simp)
        | some u2 =>
          rcases hO b with z | ⟨ob, u3, z⟩
          · rw [q2] at z
            cases z
          · have z2 := un.frzs b ob _ z
            obtain ⟨e1, _⟩ := hok b _ z
            obtain ⟨e2, _⟩ := hok' b _ z2
            rw [e] at e1
            cases e1
            exact e2
      have KX' : K.In s'.heap := fun b o e => kept b o (KX b o e)
      obtain ⟨as, hrd⟩ := Dw.reads (R := R) (cl := cl) hok' KX' d0 v u q r'
      exact ⟨u, as, rfl, hrd, OldK.of_keep kept, os, bare⟩

theorem layable_weight {ds : List WData} (h : WData.layableAll ds = true) : ∀ d ∈ ds, d.weight ≤ 1048576 := fun d hd =>
  (PySem.W.layableW_iff.mp (List.all_eq_true.mp h d hd)).2.2
theorem encAll_len : ∀ (cs : List Codec) (a : Codec.denoteAll cs), (Codec.encAll cs a).length = cs.length
  | [], _ => rfl
  | c :: cs, a => by
    show (Codec.encAll cs a.2).length + 1 = cs.length + 1
    rw [encAll_len cs a.2]

theorem walk_spec {r : OpenSpec} {k : Nat} {q : Program} {loose : List Str} {XP : (Str → Option Value) → Heap → Prop} {YP : World → Heap → Prop} {d : DefRec} {K : Params → PySem.W.Frag} {CX : World → CXT} {ps : List Str} {sp : World → Sp}
    (hwell : r.wellSaid = true) (hdf : d.params.defaults = []) (hlen : r.args.length = ps.length) (hr : Room k callerA)
    (hY : ∀ (w : World) (h : Heap), YP w h → (K w.params).In h)
    (F : ∀ (w : World) (mg : Str → Option Value) (fa : Addr) (h : Heap), YP w h → (K w.params).In h → h.Ns mainGlobals mg → mg d.name = some (.ref fa) →
      ∃ fd : FuncData, (∀ (s : Shared) (us : List Value), us.length = ps.length → BindsTo s fd ⟨us, []⟩ (ps.zip us)) ∧
        ∀ base : Heap, (K w.params).In base → base.Ns mainGlobals mg → FnOk r.prog w (K w.params) mg base (CX w) k fa fd ps (sp w))
    (hsp : ∀ (w : World) (H : Hp) (xs : List V) (a : Codec.denoteAll r.args), OnlyF H → Codec.withinAll r.args a = true → Codec.app r.args r.asked a = true → DwAll (K w.params) H xs (Codec.encAll r.args a) →
      sp w xs H (fun v H' => Dw (K w.params) H' v (r.ret.enc (Codec.app r.args r.f a))) fun _ _ _ => False)
    (hCX : ∀ (w : World) (H : Hp) (s : Shared) (e : Value) (s' : Shared), CX w [] H s (fun _ _ _ => False) e s' → False) :
    PySem.W.WalkOS q loose XP YP r d [] (fun f vs => PySem.call f vs) := by
  intro w s_0 s₁ mg mb G Y fa o pm cd doc dV kV ho hd hcd hD hmg hg args vals as hpre hlay hrd hwl hlo
  obtain ⟨a, e1, e2⟩ := PySem.W.os_pre_some hpre
  obtain ⟨e3, hwi⟩ := Codec.encAll_of_decAll r.args args a e1
  subst e3
  have KX := hY w _ Y
  obtain ⟨fd, hb, hF⟩ := F w mg fa _ Y KX G.T.g hmg
  refine PySem.W.enter_call (codeAny_mono (spec_call (R := []) (cl := classAt s_0.heap) (d0 := r.ret.enc (Codec.app r.args r.f a)) KX G.T.g G.T.b G.T.builtins G.T.nolimit hg hwl (pl_encAll _ _) (layable_weight hlay) hr hF hb (by rw [encAll_len]; exact hlen)
    (fun H xs hO hS => hsp w H xs a hO hwi e2 hS) fun H e s' => hCX w H s₁ e s') fun r' s' hq => ?_)
  obtain ⟨u, as', rfl, h1, h2, h3, h4⟩ := hq
  exact ⟨.inl ⟨u, _, as', rfl, fun _ => rfl, h1, (OpenSpec.post_iff hwell hwi _ _).mpr rfl, fun z => Bool.noConfusion (show false = true from z)⟩, h2, h3, h4⟩

theorem walk_specK {r : OpenSpec} {k : Nat} {q : Program} {loose : List Str} {XP : (Str → Option Value) → Heap → Prop} {YP : World → Heap → Prop} {d : DefRec} {K : Params → PySem.W.Frag} {CX : CXT} {ps : List Str} {sp : PySem.W.Frag → Sp}
    (hwell : r.wellSaid = true) (hdf : d.params.defaults = []) (hlen : r.args.length = ps.length) (hr : Room k callerA)
    (hY : ∀ (w : World) (h : Heap), YP w h → (K w.params).In h)
    (F : ∀ (w : World) (mg : Str → Option Value) (fa : Addr) (h : Heap), YP w h → (K w.params).In h → h.Ns mainGlobals mg → mg d.name = some (.ref fa) →
      ∃ fd : FuncData, (∀ (s : Shared) (us : List Value), us.length = ps.length → BindsTo s fd ⟨us, []⟩ (ps.zip us)) ∧
        ∀ base : Heap, (K w.params).In base → base.Ns mainGlobals mg → FnOk r.prog w (K w.params) mg base CX k fa fd ps (sp (K w.params)))
    (hsp : ∀ (K : PySem.W.Frag) (H : Hp) (xs : List V) (a : Codec.denoteAll r.args), OnlyF H → Codec.withinAll r.args a = true → Codec.app r.args r.asked a = true → DwAll K H xs (Codec.encAll r.args a) →
      sp K xs H (fun v H' => Dw K H' v (r.ret.enc (Codec.app r.args r.f a))) fun _ _ _ => False)
    (hCX : ∀ (H : Hp) (s : Shared) (e : Value) (s' : Shared), CX [] H s (fun _ _ _ => False) e s' → False) :
    PySem.W.WalkOS q loose XP YP r d [] (fun f vs => PySem.call f vs) :=
  walk_spec (K := K) (CX := fun _ => CX) (sp := fun w => sp (K w.params)) hwell hdf hlen hr hY F (fun w H xs a h1 h2 h3 h4 => hsp (K w.params) H xs a h1 h2 h3 h4) fun _ H s e s' => hCX H s e s'
end L2
end
end

section
set_option Elab.async false
set_option linter.all false
set_option maxRecDepth 100000
set_option Elab.async false
namespace LS
open PySem PySem.SetTable

/-! A set's table: places rise, no dummies; what a walk by places needs. -/
def Rise (xs : Array Nat) : Prop := xs.toList.Pairwise (· < ·)

theorem Rise.lt {xs : Array Nat} (h : Rise xs) {i j : Nat} (hij : i < j) (hj : j < xs.size) (d e : Nat) : xs.getD i d < xs.getD j e := by
  have hi : i < xs.size := Nat.lt_trans hij hj
  have h1 : i < xs.toList.length := by simpa using hi
  have h2 : j < xs.toList.length := by simpa using hj
  have h3 := (List.pairwise_iff_getElem.mp h) i j h1 h2 hij
  rw [Array.getElem_toList, Array.getElem_toList] at h3
  simp only [Array.getD, hi, hj, dif_pos]
  exact h3

theorem go_spec {xs : Array Nat} (h : Rise xs) (j : Nat) : ∀ (fuel lo hi : Nat), hi ≤ xs.size → lo ≤ hi → hi - lo ≤ fuel →
    (∀ i, i < lo → xs.getD i j < j) → (∀ i, hi ≤ i → i < xs.size → j ≤ xs.getD i j) →
    lo ≤ below.go xs j fuel lo hi ∧ below.go xs j fuel lo hi ≤ hi ∧
    (∀ i, i < below.go xs j fuel lo hi → xs.getD i j < j) ∧ (∀ i, below.go xs j fuel lo hi ≤ i → i < xs.size → j ≤ xs.getD i j) := by
  intro fuel
  induction fuel with
  | zero =>
    intro lo hi h1 h2 h3 h4 h5
    have e : lo = hi := by omega
    subst e
    unfold below.go
    exact ⟨Nat.le_refl _, Nat.le_refl _, h4, h5⟩
  | succ f ih =>
    intro lo hi h1 h2 h3 h4 h5
    unfold below.go
    by_cases hl : lo < hi
    · rw [if_pos hl]
      dsimp only
      by_cases hm : xs.getD ((lo + hi) / 2) j < j
      · rw [if_pos hm]
        have r := ih ((lo + hi) / 2 + 1) hi h1 (by omega) (by omega) (fun i hi' => by
          by_cases e : i = (lo + hi) / 2
          · rw [e]; exact hm
          · exact Nat.lt_trans (h.lt (i := i) (j := (lo + hi) / 2) (by omega) (by omega) j j) hm) h5
        exact ⟨by omega, r.2.1, r.2.2⟩
      · rw [if_neg hm]
        have r := ih lo ((lo + hi) / 2) (by omega) (by omega) (by omega) h4 (fun i hi' hi2 => by
          by_cases e : i = (lo + hi) / 2
          · rw [e]; omega
          · have := h.lt (i := (lo + hi) / 2) (j := i) (by omega) hi2 j j
            omega)
        exact ⟨r.1, by omega, r.2.2⟩
    · rw [if_neg hl]
      have e : lo = hi := by omega
      subst e
      exact ⟨Nat.le_refl _, Nat.le_refl _, h4, h5⟩

theorem below_spec {xs : Array Nat} (h : Rise xs) (j : Nat) : below xs j ≤ xs.size ∧
    (∀ i, i < below xs j → xs.getD i j < j) ∧ (∀ i, below xs j ≤ i → i < xs.size → j ≤ xs.getD i j) := by
  have r := go_spec h j xs.size 0 xs.size (Nat.le_refl _) (Nat.zero_le _) (by omega) (fun i hi => absurd hi (Nat.not_lt_zero _)) (fun i h1 h2 => by omega)
  exact r.2

/-- in a rising array the search for a number behind the i-th finds the next -/
theorem below_next {xs : Array Nat} (h : Rise xs) {i : Nat} (hi : i < xs.size) : below xs (xs.getD i 0 + 1) = i + 1 := by
  have r := below_spec h (xs.getD i 0 + 1)
  have e : xs.getD i (xs.getD i 0 + 1) = xs.getD i 0 := by simp [Array.getD, hi]
  apply Nat.le_antisymm
  · refine Nat.le_of_not_lt fun hlt => ?_
    have h1 := r.2.1 (i + 1) hlt
    have h2 := r.1
    have h3 := h.lt (i := i) (j := i + 1) (Nat.lt_succ_self _) (by omega) 0 (xs.getD i 0 + 1)
    omega
  · refine Nat.le_of_not_lt fun hlt => ?_
    have h1 := r.2.2 i (by omega) hi
    rw [e] at h1
    omega
theorem below_zero {xs : Array Nat} (h : Rise xs) : below xs 0 = 0 := by
  have r := below_spec h 0
  refine Nat.le_antisymm (Nat.le_of_not_lt fun hlt => ?_) (Nat.zero_le _)
  exact absurd (r.2.1 0 hlt) (Nat.not_lt_zero _)

/-- no place of a rising array is j, if the search says so -/
theorem not_there {xs : Array Nat} (h : Rise xs) {j : Nat} (hn : (xs[below xs j]? == some j) = false) : ∀ i, i < xs.size → xs.getD i j ≠ j ∨ xs.size ≤ i := by
  intro i hi
  left
  intro e
  have r := below_spec h j
  by_cases h1 : i < below xs j
  · have := r.2.1 i h1; omega
  · by_cases h2 : below xs j = i
    · rw [h2] at hn
      have : xs[i]? = some j := by
        rw [Array.getElem?_eq_getElem hi]
        simp only [Array.getD, hi, dif_pos] at e
        exact congrArg some e
      rw [this] at hn
      simp at hn
    · have h3 : below xs j < i := by omega
      have h4 := h.lt h3 hi j j
      have h5 := r.2.2 (below xs j) (Nat.le_refl _) (by omega)
      omega

theorem Rise.put {xs : Array Nat} (h : Rise xs) {j : Nat} (hn : (xs[below xs j]? == some j) = false) : Rise (insertAt xs (below xs j) j) := by
  have r := below_spec h j
  have nt := not_there h hn
  unfold Rise
  rw [SetTable.toList_insertAt]
  have hl : xs.toList.length = xs.size := Array.length_toList
  refine List.pairwise_append.mpr ⟨h.sublist (List.take_sublist _ _), List.pairwise_cons.mpr ⟨fun b hb => ?_, h.sublist (List.drop_sublist _ _)⟩, fun a ha b hb => ?_⟩
  · obtain ⟨k, hk, rfl⟩ := List.mem_iff_getElem.mp hb
    rw [List.getElem_drop]
    have hk' : below xs j + k < xs.size := by rw [List.length_drop] at hk; omega
    have h1 := r.2.2 (below xs j + k) (Nat.le_add_right _ _) hk'
    have h2 := nt _ hk'
    simp only [Array.getD, hk', dif_pos] at h1 h2
    rw [Array.getElem_toList]
    rcases h2 with h2 | h2
    · exact Nat.lt_of_le_of_ne h1 (Ne.symm h2)
    · omega
  · have hlt : a < j := by
      obtain ⟨k, hk, rfl⟩ := List.mem_iff_getElem.mp ha
      rw [List.length_take] at hk
      rw [List.getElem_take]
      have hk' : k < xs.size := by omega
      have h1 := r.2.1 k (by omega)
      simp only [Array.getD, hk', dif_pos] at h1
      rw [Array.getElem_toList]
      exact h1
    rcases List.mem_cons.mp hb with rfl | hb
    · exact hlt
    · obtain ⟨k, hk, rfl⟩ := List.mem_iff_getElem.mp hb
      rw [List.getElem_drop]
      have hk' : below xs j + k < xs.size := by rw [List.length_drop] at hk; omega
      have h1 := r.2.2 (below xs j + k) (Nat.le_add_right _ _) hk'
      simp only [Array.getD, hk', dif_pos] at h1
      rw [Array.getElem_toList]
      exact Nat.lt_of_lt_of_le hlt h1

theorem rise_range (n : Nat) : Rise (Array.range n) := by
  unfold Rise
  rw [Array.toList_range]
  exact List.pairwise_lt_range
theorem rise_live (m : Nat) (f : Nat → Option Nat) : Rise (((List.range m).filterMap fun j => (f j).map (j, ·)).map (·.1)).toArray := by
  unfold Rise
  show (((List.range m).filterMap fun j => (f j).map (j, ·)).map (·.1)).Pairwise (· < ·)
  rw [List.pairwise_map, List.pairwise_filterMap]
  refine List.pairwise_lt_range.imp fun {a b} hab c hc d hd => ?_
  cases ea : f a with
  | none => rw [ea] at hc; cases hc
  | some x =>
    cases eb : f b with
    | none => rw [eb] at hd; cases hd
    | some y =>
      rw [ea] at hc
      rw [eb] at hd
      cases hc
      cases hd
      exact hab

structure Tab (t : SetTable) (led : Bool) : Prop where
  dum : t.dummies = #[]
  rise : Rise t.place
  led : t.led = led

theorem Tab.standIn {t : SetTable} {l : Bool} (h : Tab t l) (n : Nat) : Tab (t.standIn n) l := ⟨rfl, rise_range n, h.led⟩
theorem Tab.off {t : SetTable} {l : Bool} (h : Tab t l) : Tab { t with plain := false } l := ⟨h.dum, h.rise, h.led⟩
theorem Tab.slotE {t : SetTable} {l : Bool} (h : Tab t l) {j : Nat} : t.slot j ≠ .dummy ∧ (t.slot j = .empty → (t.place[below t.place j]? == some j) = false) := by
  have hd : has t.dummies j = false := by rw [h.dum]; rfl
  unfold SetTable.slot
  dsimp only
  cases e : (t.place[below t.place j]? == some j) with
  | true => simp
  | false => simp [hd]
theorem Tab.go {t : SetTable} {l : Bool} (h : Tab t l) (g : Nat → Int) (z : Int) : ∀ (fuel : Nat) (p : Probe) (j : Nat) (d : Option Nat), p.dummy = none → probe.go t g z fuel p = some (.empty j d) → d = none ∧ t.slot j = .empty := by
  intro fuel
  induction fuel with
  | zero => intro p j d hp e; unfold probe.go at e; cases e
  | succ f ih =>
    intro p j d hp e
    unfold probe.go at e
    cases es : t.slot p.j with
    | empty =>
      rw [es] at e
      dsimp only at e
      cases e
      exact ⟨hp, es⟩
    | dummy => exact absurd es h.slotE.1
    | live i =>
      rw [es] at e
      dsimp only at e
      split at e
      · cases e
      · refine ih _ j d ?_ e
        unfold SetTable.advance
        split
        · exact hp
        · exact hp
theorem Tab.free {t : SetTable} {l : Bool} (h : Tab t l) {z : Int} {j : Nat} {b : Bool} (e : t.freeSlot z = some (j, b)) : b = false ∧ (t.place[below t.place j]? == some j) = false := by
  unfold SetTable.freeSlot at e
  split at e
  · rename_i j' d hm
    obtain ⟨rfl, hs⟩ := h.go (fun _ => z + 1) z _ _ _ _ rfl hm
    have e2 := Option.some.inj e
    have e3 : j' = j := congrArg Prod.fst e2
    have e4 : false = b := congrArg Prod.snd e2
    subst e3
    exact ⟨e4.symm, h.slotE.2 hs⟩
  · cases e
theorem Tab.layNew {t : SetTable} {l : Bool} (h : Tab t l) (es : Array (Int × Value)) (z : Int) (x : Value) : Tab (layNew t es z x).2.1 l := by
  unfold PySem.layNew
  split
  · rename_i j b hf
    have hp := (h.free hf).2
    have hput : Tab (t.put j).1 l := by
      unfold SetTable.put
      dsimp only
      refine ⟨?_, h.rise.put hp, h.led⟩
      have hd : has t.dummies j = false := by rw [h.dum]; rfl
      dsimp only
      rw [hd]
      exact h.dum
    show Tab ((t.put j).1.orStandIn _) l
    unfold SetTable.orStandIn
    split
    · exact hput
    · exact hput.standIn _
  · exact h.standIn _
theorem Tab.relayAll {t : SetTable} {l : Bool} (h : Tab t l) (es : Array (Int × Value)) (n : Nat) : Tab (relayAll t es n).2.1 l := by
  unfold PySem.relayAll
  split
  · rename_i t' order hr
    dsimp only
    split
    · unfold SetTable.relaid SetTable.laid at hr
      cases hc : SetTable.layClean (sizeAbove n - 1) (es.map (·.1)) with
      | none => rw [hc] at hr; cases hr
      | some owner =>
        rw [hc] at hr
        have e := congrArg Prod.fst (Option.some.inj hr)
        dsimp only at e
        rw [← e]
        exact ⟨rfl, rise_live _ _, h.led⟩
    · exact h.standIn _
  · exact h.standIn _
theorem Tab.fresh (l : Bool) : Tab (SetTable.fresh 0 0 l) l := ⟨rfl, List.Pairwise.nil, rfl⟩
end LS
end

section
set_option Elab.async false
set_option linter.all false
set_option maxRecDepth 100000
set_option Elab.async false
set_option maxRecDepth 100000
namespace LS
open PySem PySem.Spec

/-- the number of a value that is one -/
def iv : Value → Int
  | .int i _ => i
  | _ => 0

/-- the set at a holds just the numbers ks, in whatever order; its table is as a walk wants it -/
def SetAt (prog : Program) (w : World) (h : Heap) (a : Addr) (ks : List Int) (led : Bool) : Prop :=
  ∃ o es ep t, h.get? a = some o ∧ o.ExactSet ∧ o.data = .set es ep t ∧ ElemsOf (intKind prog w) es.toList ∧ es.size < scanBound ∧ t.fits es.size = true ∧ Tab t led ∧ (es.toList.map fun e => iv e.2).Perm ks

section
variable {prog : Program} {w : World} {A : Around} {E : Value → Shared → Prop} {s : Shared}

theorem SetAt.at {h h' : Heap} {a : Addr} {ks : List Int} {l : Bool} (x : SetAt prog w h a ks l) (e : ∀ o, h.get? a = some o → h'.get? a = some o) : SetAt prog w h' a ks l :=
  let ⟨o, es, ep, t, ho, r⟩ := x
  ⟨o, es, ep, t, e _ ho, r⟩

theorem iv_mem {es : List (Int × Value)} (hel : ElemsOf (intKind prog w) es) (k : Int) : (∃ e ∈ es, (intKind prog w).is k e.2 = true) ↔ k ∈ es.map fun e => iv e.2 := by
  constructor
  · rintro ⟨e, he, hk⟩
    obtain ⟨t, ev⟩ := Value.isInt_shape (k := k) (v := e.2) hk
    refine List.mem_map.mpr ⟨e, he, ?_⟩
    show iv e.2 = k
    rw [ev]
    rfl
  · intro hm
    obtain ⟨e, he, hk⟩ := List.mem_map.mp hm
    obtain ⟨⟨k', hk', _⟩, _⟩ := hel e he
    obtain ⟨t, ev⟩ := Value.isInt_shape (k := k') (v := e.2) hk'
    refine ⟨e, he, ?_⟩
    have hk2 : iv e.2 = k := hk
    rw [ev] at hk2 ⊢
    have : k' = k := hk2
    rw [this]
    exact intKind_is prog w k t

/-- the tail of an addition: store, and lay anew where it's too full -/
theorem addTail {g : Bool → Sem Unit} (hg : ∀ (b : Bool) (s₁ : Shared) (Q' : Unit → Shared → Prop), Q' () s₁ → wpAny (model prog w) A (g b) Q' E s₁)
    {a : Addr} {o : Obj} {es es1 : Array (Int × Value)} {ep : Nat} {t t2 : SetTable} {ks : List Int} {led wasDummy : Bool} {R : Option Bool → Shared → Prop}
    (ho : s.heap.get? a = some o) (hex : o.ExactSet) (hd : o.data = .set es ep t)
    (hel1 : ElemsOf (intKind prog w) es1.toList) (hb1 : es1.size < scanBound) (hf2 : t2.fits es1.size = true) (ht : Tab t2 led) (hp1 : (es1.toList.map fun e => iv e.2).Perm ks)
    (h : ∀ h', Heap.SameBut a s.heap h' → SetAt prog w h' a ks led → R (some true) { s with heap := h' }) :
    wpAny (model prog w) A (do
        storeSet a es1 t2
        if (!wasDummy && t2.tooFull) = true then do
            g (relayAll t2 es1 (SetTable.grown es1.size)).2.2
            storeSet a (relayAll t2 es1 (SetTable.grown es1.size)).1 (relayAll t2 es1 (SetTable.grown es1.size)).2.1
            pure (some true)
          else pure (some true)) R E s := by
  have up : ∀ {h : Heap} {o : Obj} {es : Array (Int × Value)} {ep : Nat} {t : SetTable} (es' : Array (Int × Value)) (t' : SetTable), h.get? a = some o → o.data = .set es ep t →
      (h.update a (Obj.putSet es' t')).get? a = some { o with data := .set es' (ep + 1) t' } := fun {h o es ep t} es' t' q qd => by
    have z := Heap.get?_update_self (Obj.putSet es' t') q (by rw [putSet_of es' t' qd]; rfl)
    rw [putSet_of es' t' qd] at z
    exact z
  refine wpAny_bind (wpAny_storeSet_of ho hd ?_ (fits_of_scanBound hb1))
  have ho1 := up es1 t2 ho hd
  have sb1 := Heap.SameBut.update s.heap a (Obj.putSet es1 t2)
  split
  · have pm := relayAll_perm t2 es1 (SetTable.grown es1.size)
    have fr := relayAll_fits t2 es1 (SetTable.grown es1.size)
    have tr := ht.relayAll es1 (SetTable.grown es1.size)
    have sz : (relayAll t2 es1 (SetTable.grown es1.size)).1.size = es1.size := by rw [← Array.length_toList, pm.length_eq, Array.length_toList]
    refine wpAny_bind (hg _ _ _ ?_)
    refine wpAny_bind (wpAny_storeSet_of ho1 rfl ?_ (fits_of_scanBound (by rw [sz]; exact hb1)))
    exact wpAny_pure (h _ (sb1.trans (Heap.SameBut.update _ a _)) ⟨_, _, _, _, up _ _ ho1 rfl, hex, rfl, hel1.perm pm, by rw [sz]; exact hb1, fr, tr, (pm.map _).trans hp1⟩)
  · exact wpAny_pure (h _ sb1 ⟨_, _, _, _, ho1, hex, rfl, hel1, hb1, hf2, ht, hp1⟩)

/-- a number is added -/
theorem add_at {a : Addr} {ks : List Int} {led : Bool} {k : Int} {tk : Tok} {Q : Bool → Shared → Prop} (hS : SetAt prog w s.heap a ks led) (hroom : ks.length + 1 < scanBound)
    (h : ∀ h' b, Heap.SameBut a s.heap h' → SetAt prog w h' a (if k ∈ ks then ks else ks ++ [k]) led → Q b { s with heap := h' }) :
    wpAny (model prog w) A (setAddHashed a (.int k tk) ((intKind prog w).hash k)) Q E s := by
  obtain ⟨o, es, ep, t, ho, hex, hd, hel, hb, hf, ht, hp⟩ := hS
  have hkey := intKind_is prog w k tk
  have hlen : es.size = ks.length := by rw [← hp.length_eq, List.length_map, Array.length_toList]
  unfold setAddHashed setAddHashedIn
  refine wpAny_holding (wpAny_bind (wpAny_setState_of ho hd hf ?_))
  dsimp only
  rw [byScan_of (knd := intKind prog w) rfl hb hel]
  rw [if_pos rfl]
  unfold setAddByScan
  refine wpAny_bind (wpAny_bind (wpAny_rule ?_))
  refine wpAny_bind (wpAny_setScan_of hkey ho hd hf hel ?_)
  cases hr : List.findIdx? (fun e => (intKind prog w).is k e.2) es.toList with
  | some j =>
    dsimp only
    obtain ⟨hj, hpj, _⟩ := List.findIdx?_eq_some_iff_getElem.mp hr
    have hm : k ∈ ks := hp.mem_iff.mp ((iv_mem hel k).mp ⟨es.toList[j], List.getElem_mem hj, hpj⟩)
    refine wpAny_pure (wpAny_pure ?_)
    have z := h s.heap false (Heap.SameBut.refl a s.heap)
    rw [if_pos hm] at z
    exact z ⟨o, es, ep, t, ho, hex, hd, hel, hb, hf, ht, hp⟩
  | none =>
    dsimp only
    have hm : ¬ k ∈ ks := fun hk => by
      obtain ⟨e, he, hpe⟩ := (iv_mem hel k).mpr (hp.mem_iff.mpr hk)
      have z := List.findIdx?_eq_none_iff.mp hr e he
      rw [hpe] at z
      cases z
    have pm := layNew_perm t es ((intKind prog w).hash k) (.int k tk)
    have fi := layNew_fits t es ((intKind prog w).hash k) (.int k tk)
    have tb := ht.layNew es ((intKind prog w).hash k) (.int k tk)
    generalize layNew t es ((intKind prog w).hash k) (.int k tk) = L at pm fi tb ⊢
    obtain ⟨es1, t1, wasDummy, gave⟩ := L
    dsimp only at pm fi tb ⊢
    rw [Array.toList_push] at pm
    have hel1 : ElemsOf (intKind prog w) es1.toList := (hel.push hkey rfl).perm pm
    have hp1 : (es1.toList.map fun e => iv e.2).Perm (ks ++ [k]) := by
      refine (pm.map _).trans ?_
      rw [List.map_append]
      exact hp.append_right [k]
    have hb1 : es1.size < scanBound := by
      have z : es1.size = es.size + 1 := by rw [← Array.length_toList, pm.length_eq, List.length_append, Array.length_toList]; rfl
      omega
    have fin : ∀ h', Heap.SameBut a s.heap h' → SetAt prog w h' a (ks ++ [k]) led → Q true { s with heap := h' } := fun h' sb z => by
      have y := h h' true sb
      rw [if_neg hm] at y
      exact y z
    have gw : ∀ (b : Bool) (s₁ : Shared) (Q' : Unit → Shared → Prop), Q' () s₁ → wpAny (model prog w) A (match b with | true => rule "set.scan.the-table-gave-way" | false => pure ()) Q' E s₁ := fun b s₁ Q' q => by
      cases b
      · exact wpAny_pure q
      · exact wpAny_rule q
    refine wpAny_bind (gw _ _ _ ?_)
    split
    · refine wpAny_bind ?_
      rw [hashByValue_scannable 8 (show Value.scannable (.int k tk) = true from rfl)]
      refine wpAny_pure ?_
      refine addTail ?_ ho hex hd hel1 hb1 (led := led) (ks := ks ++ [k]) ?_ ?_ hp1 ?_
      · intro b s₁ Q' q
        cases b
        · exact wpAny_pure q
        · exact wpAny_rule q
      · exact fi
      · exact tb
      · intro h' sb z
        dsimp only
        exact wpAny_pure (fin h' sb z)
    · refine wpAny_bind (wpAny_pure ?_)
      rw [if_pos rfl]
      refine addTail ?_ ho hex hd hel1 hb1 (led := led) (ks := ks ++ [k]) fi tb hp1 ?_
      · intro b s₁ Q' q
        cases b
        · exact wpAny_pure q
        · exact wpAny_rule q
      · intro h' sb z
        dsimp only
        exact wpAny_pure (fin h' sb z)
end
end LS
end

section
set_option Elab.async false
set_option linter.all false
set_option maxRecDepth 100000
set_option Elab.async false
set_option maxRecDepth 100000
namespace LS
open PySem PySem.Spec

/-- one more number met -/
def met (ks : List Int) (k : Int) : List Int := if k ∈ ks then ks else ks ++ [k]
/-- each number once, as first met -/
def ded (ns : List Int) : List Int := ns.foldl met []
theorem ded_snoc (ns : List Int) (k : Int) : ded (ns ++ [k]) = met (ded ns) k := by
  unfold ded
  rw [List.foldl_append]
  rfl
theorem mem_met {ks : List Int} {k x : Int} : x ∈ met ks k ↔ x ∈ ks ∨ x = k := by
  unfold met
  split
  · constructor
    · exact .inl
    · rintro (h | rfl)
      · exact h
      · assumption
  · simp
theorem met_nodup {ks : List Int} {k : Int} (h : ks.Nodup) : (met ks k).Nodup := by
  unfold met
  split
  · exact h
  · rename_i hn
    refine List.nodup_append.mpr ⟨h, by simp, ?_⟩
    intro a ha b hb e
    rw [List.mem_singleton] at hb
    rw [e, hb] at ha
    exact hn ha
theorem fold_mem : ∀ (ns acc : List Int) (x : Int), x ∈ ns.foldl met acc ↔ x ∈ acc ∨ x ∈ ns
  | [], acc, x => by simp
  | n :: ns, acc, x => by
    rw [List.foldl_cons, fold_mem ns, mem_met]
    simp [or_assoc]
theorem mem_ded {ns : List Int} {x : Int} : x ∈ ded ns ↔ x ∈ ns := by
  unfold ded
  rw [fold_mem]
  simp
theorem fold_nodup : ∀ (ns acc : List Int), acc.Nodup → (ns.foldl met acc).Nodup
  | [], _, h => h
  | _ :: ns, _, h => fold_nodup ns _ (met_nodup h)
theorem ded_nodup (ns : List Int) : (ded ns).Nodup := fold_nodup ns [] List.nodup_nil
theorem met_len (ks : List Int) (k : Int) : ks.length ≤ (met ks k).length := by
  unfold met
  split <;> simp
theorem fold_len : ∀ (ns acc : List Int), acc.length ≤ (ns.foldl met acc).length
  | [], _ => Nat.le_refl _
  | k :: ns, acc => Nat.le_trans (met_len acc k) (fold_len ns _)
theorem ded_take_len (ns : List Int) (i : Nat) : (ded (ns.take i)).length ≤ (ded ns).length := by
  have e : ns = ns.take i ++ ns.drop i := (List.take_append_drop i ns).symm
  have : ded ns = (ns.drop i).foldl met (ded (ns.take i)) := by
    conv => lhs; rw [e]
    unfold ded
    rw [List.foldl_append]
  rw [this]
  exact fold_len _ _

section
variable {prog : Program} {w : World} {A : Around} {R : Result → Shared → Prop} {I : Addr} {fp wr : List Addr} {G : Array GenState → Array GenState → Prop} {P : Nat → Value → Prop} {St : Nat → Shared → Prop}

theorem fill_loop {ns : List Int} {led : Bool} (W : WalksS prog w A.in1 I fp wr G ns.length P St) (S : Addr) (hSf : S ∉ fp)
    (hval : ∀ i v, P i v → ∃ k t, ns[i]? = some k ∧ v = .int k t) (hb : (ded ns).length + 1 < scanBound) :
    ∀ (k i : Nat) (s : Shared), ns.length - i = k → i ≤ ns.length → St i s → SetAt prog w s.heap S (ded (ns.take i)) led →
      (∀ s', Moved (S :: wr) G s s' → SetAt prog w s'.heap S (ded ns) led → R (.ok (.ret .none)) s') →
      codeAny (model prog w) A (.builtin "set.update.loop" ⟨[.ref S, .ref I], []⟩) R s := by
  have nw : S ∉ wr := fun h => hSf (W.sub _ h)
  intro k
  induction k with
  | zero =>
    intro i s hk hi hst hS hR
    have e : i = ns.length := by omega
    subst e
    refine codeAny_builtin PyProof.Rows.F.entry_set_update_loop ?_
    rw [Around.under_plainId PyProof.Rows.F.plain_set_update_loop _]
    show wpAny _ A.in1 (pyNext (.ref I) >>= _) _ _ s
    refine wpAny_bind (W.done s _ _ hst fun s' hm => ?_)
    show wpAny _ A.in1 (ret Value.none) _ _ s'
    rw [List.take_length] at hS
    exact wpAny_pure (hR s' (hm.mono fun b z => List.mem_cons_of_mem _ z) (hS.at fun o q => hm.heap S _ nw q))
  | succ k ih =>
    intro i s hk hi hst hS hR
    refine codeAny_builtin PyProof.Rows.F.entry_set_update_loop ?_
    rw [Around.under_plainId PyProof.Rows.F.plain_set_update_loop _]
    show wpAny _ A.in1 (pyNext (.ref I) >>= _) _ _ s
    refine wpAny_bind (W.item i s _ _ (by omega) hst fun v s' hP hst' hm => ?_)
    obtain ⟨z, t, hz, rfl⟩ := hval i v hP
    have hS' := hS.at fun o q => hm.heap S _ nw q
    show wpAny _ A.in1 (holding [Value.int z t] (setAdd S (.int z t)) >>= _) _ _ s'
    refine wpAny_bind (wpAny_holding ?_)
    unfold setAdd
    refine wpAny_holding ?_
    refine wpAny_bind ((intKind prog w).pyHash (k := z) (intKind_is _ _ _ _) ?_)
    refine add_at (s := { s' with toks := s'.toks + 1 }) hS' (by have := ded_take_len ns i; omega) fun h' b hsb hS2 => ?_
    have e2 : ded (ns.take (i + 1)) = if z ∈ ded (ns.take i) then ded (ns.take i) else ded (ns.take i) ++ [z] := by
      have e3 : ns.take (i + 1) = ns.take i ++ [z] := by
        rw [List.take_add_one, hz]
        rfl
      rw [e3, ded_snoc]
      rfl
    rw [← e2] at hS2
    refine wpAny_pure ⟨plainId_quiet PyProof.Rows.F.plain_set_update_loop _, ih (i + 1) _ (by omega) (by omega) (W.frame _ s' _ _ hst' (Nat.le_succ _) fun b hb o e => ?_) hS2 fun s'' hm'' hS'' => ?_⟩
    · rw [hsb.2 b (fun q : b = S => hSf (by rw [← q]; exact hb))]
      exact e
    · refine hR s'' (Moved.trans W.gtrans ((hm.mono fun b z => List.mem_cons_of_mem _ z).then_heap (Nat.le_succ _) fun b o hb e => ?_) hm'') hS''
      rw [hsb.2 b (fun q : b = S => hb (by rw [q]; exact List.mem_cons_self))]
      exact e
end

section
variable {prog : Program} {w : World} {A : Around} {E : Value → Shared → Prop} {s : Shared}
/-- whether sets are led in this world -/
def wled (w : World) : Bool := !w.params.followText "set-order"
abbrev newO (l : Bool) : Obj := { cls := .type "set", dict := none, data := .set #[] 0 (.fresh 0 0 l) }

theorem new_code (a : Value) {Q₁ : Value → Shared → Prop} (h : Q₁ (.ref s.heap.objs.size) { s with heap := s.heap.push (newO (wled w)) }) :
    codeAny (model prog w) A (.call (.builtin "set.__new__") ⟨[.type "set", a], []⟩) (wants Q₁ E) s := by
  refine codeAny_of_tree ?_
  show wpAny _ A.in1 (do checkBuiltinCall "set.__new__" ⟨[.type "set", a], []⟩; again (.builtin "set.__new__" ⟨[.type "set", a], []⟩)) _ _ s
  refine wpAny_bind (wpAny_of_eq (F.newCall_set_1 a) (wpAny_pure ⟨plainId_quiet F.plain_set_new _, codeAny_builtin F.entry_set_new ?_⟩))
  rw [Around.under_plainId F.plain_set_new _]
  unfold Builtin.«set.__new__» Builtin.Frozenset.newClass
  have hsub := sub_set_self
  obtain ⟨hp, g, d, tk, os⟩ := s
  dsimp only
  wp_walk
  refine wpAny_askSetting (wpAny_pure ?_)
  dsimp only
  simp only [newObj]
  exact wpAny_bind (wpAny_alloc (wpAny_pure (wpAny_pure h)))
end
end LS
end

section
set_option Elab.async false
set_option linter.all false
set_option maxRecDepth 100000
set_option Elab.async false
set_option maxRecDepth 100000
namespace LS
open PySem PySem.Spec
section
variable {prog : Program} {w : World} {A : Around} {E : Value → Shared → Prop} {s : Shared}

theorem ints_at {vs : List Value} {ns : List Int} (h : PyProof.Rows.IntsAre vs ns) {i : Nat} {v : Value} (e : vs[i]? = some v) : ∃ k t, ns[i]? = some k ∧ v = .int k t := by
  have hl := h.length
  obtain ⟨t, ev⟩ := PyProof.Rows.IntsAre.int_at h i v e
  obtain ⟨hi, _⟩ := List.getElem?_eq_some_iff.mp e
  have hi2 : i < ns.length := by omega
  refine ⟨ns[i], t, List.getElem?_eq_getElem hi2, ?_⟩
  rw [ev, List.getD_eq_getElem?_getD, List.getElem?_eq_getElem hi2]
  rfl

/-- __init__ of the new set, with a list of numbers -/
theorem init_code {l : Addr} {items : Array Value} {ns : List Int} {led : Bool} {h0 : Heap} {R : Result → Shared → Prop}
    (hh : A.handled = none) (hl : h0.IsList l items) (hi : PyProof.Rows.IntsAre items.toList ns) (hb : (ded ns).length + 1 < scanBound) (e0 : s.heap = h0.push (newO led))
    (h : ∀ (h' : Heap) (tk : Nat), SetAt prog w h' h0.objs.size (ded ns) led → (∀ b o, h0.get? b = some o → h'.get? b = some o) → R (.ok (.ret .none)) { s with heap := h', toks := tk }) :
    codeAny (model prog w) A (.call (.builtin "set.__init__") ⟨[.ref h0.objs.size, .ref l], []⟩) R s := by
  obtain ⟨hp, gn, dr, tk, os⟩ := s
  have e1 : hp = h0.push (newO led) := e0
  subst e1
  have hS : (h0.push (newO led)).get? h0.objs.size = some (newO led) := Heap.get?_push_size _ rfl
  have hT : Shared.TypeIs ⟨h0.push (newO led), gn, dr, tk, os⟩ (.ref h0.objs.size) "set" := ⟨_, hS, rfl⟩
  refine codeAny_call_builtin F.called_set.init.plain F.entry_set_init (check_set_init_1 hT ?_)
  obtain ⟨ol, hol, hcl, nl, hdl⟩ := hl
  obtain ⟨oc, od, oda, osl⟩ := ol
  have hcl' : oc = .type "list" := hcl
  have hdl' : oda = .seq items nl := hdl
  subst hcl' hdl'
  have hol2 : (h0.push (newO led)).get? l = some { cls := .type "list", dict := od, data := .seq items nl, slots := osl } := Heap.get?_push_of_some _ hol
  have sl1 := F.sub_list_set
  have sl2 := F.sub_list_frozenset
  have hne : (Value.type "list" == Value.type "dict") = false := by decide
  have hl1 : (h0.push (newO led)).IsList l items := ⟨_, hol2, rfl, nl, rfl⟩
  unfold Builtin.«set.__init__» noKeywords Builtin.Frozenset.updateFrom
  generalize hPI : pyIter = PI
  wp_walk
  subst hPI
  refine wpAny_pyIter_list hl1 ?_
  refine wpAny_bind (wpAny_runValue ?_)
  have hlS : l < h0.objs.size := Heap.lt_size hol
  have h3 : A.in1.in1.handled = none := by simp [hh]
  have n1 : l ≠ (h0.push (newO led)).objs.size := by
    rw [Heap.size_push]
    exact Nat.ne_of_lt (Nat.lt_succ_of_lt hlS)
  have n2 : h0.objs.size ∉ [(h0.push (newO led)).objs.size, l] := by
    rw [Heap.size_push]
    simp only [List.mem_cons, List.mem_singleton, List.not_mem_nil, or_false, not_or]
    exact ⟨Nat.ne_of_lt (Nat.lt_succ_self _), Nat.ne_of_gt hlS⟩
  have len : items.size = ns.length := by rw [← hi.length, Array.length_toList]
  have W := ((Walks.list (prog := prog) (w := w) h3 _ l n1 items).toS)
  rw [len] at W
  refine fill_loop (led := led) W h0.objs.size n2 (fun i v hv => ints_at hi (by rw [Array.getElem?_toList]; exact hv)) hb (ns.length - 0) 0 _ rfl (Nat.zero_le _) ⟨⟨_, Heap.get?_push_size _ rfl, rfl, rfl⟩, hl1.push _⟩ ?_ ?_
  · refine ⟨newO led, #[], 0, _, Heap.get?_push_of_some _ hS, ⟨rfl, rfl, rfl⟩, rfl, fun e he => by simp at he, by decide, rfl, Tab.fresh led, ?_⟩
    exact List.Perm.nil
  · intro s' hm hS'
    obtain ⟨h', g', d', tk', os'⟩ := s'
    have eg : g' = gn := hm.gens
    have ed : d' = dr := hm.drawn
    have eo : os' = os := hm.os
    subst eg ed eo
    show wpAny _ _ _ _ _ _
    refine wpAny_pure ?_
    show wpAny _ _ (ret Value.none) _ _ _
    refine wpAny_pure (h h' tk' hS' fun b o e => ?_)
    have b1 : b < h0.objs.size := Heap.lt_size e
    refine hm.heap b o ?_ (Heap.get?_push_of_some _ (Heap.get?_push_of_some _ e))
    simp only [List.mem_cons, List.mem_singleton, List.not_mem_nil, or_false, not_or]
    refine ⟨Nat.ne_of_lt b1, ?_⟩
    rw [Heap.size_push]
    exact Nat.ne_of_lt (Nat.lt_succ_of_lt b1)
end
end LS
end

section
set_option Elab.async false
set_option linter.all false
set_option maxRecDepth 100000
set_option Elab.async false
set_option maxRecDepth 100000
namespace LS
open PySem PySem.Spec
section
variable {prog : Program} {w : World} {A : Around} {E : Value → Shared → Prop} {s : Shared}
set_option maxHeartbeats 3200000 in
/-- set(xs), xs a list of numbers -/
theorem set_of_list {l : Addr} {items : Array Value} {ns : List Int} {Q : Value → Shared → Prop}
    (hh : A.handled = none) (hl : s.heap.IsList l items) (hi : PyProof.Rows.IntsAre items.toList ns) (hb : (ded ns).length + 1 < scanBound)
    (h : ∀ (h' : Heap) (tk : Nat), SetAt prog w h' s.heap.objs.size (ded ns) (wled w) → (∀ b o, s.heap.get? b = some o → h'.get? b = some o) → Q (.ref s.heap.objs.size) { s with heap := h', toks := tk }) :
    wpAny (model prog w) A (call (.type "set") [.ref l]) Q E s := by
  have C := F.called_set
  obtain ⟨c, tl, hmro⟩ := C.mro
  have hmade := C.made
  have hsub := C.sub
  refine wpAny_call (codeAny_of_tree ?_)
  show wpAny _ _ (callAny (.type "set") _) _ _ _
  refine wpAny_pure ⟨Code.quiet_builtin _ (by decide +kernel), codeAny_builtin F.entry_type_call ?_⟩
  rw [Around.under_plain (weight_type_call_type "set" [.ref l] []) rfl]
  have h1 := C.notType
  have h2 := C.canCreate
  have hct := F.typeCall_set_1 (.ref l)
  repeat (any_goals (first | assumption | wp_step))
  refine codeAny_mono (new_code (.ref l) (E := E) (Q₁ := fun obj s₁ => obj = .ref s.heap.objs.size ∧ s₁ = { s with heap := s.heap.push (newO (wled w)) }) ⟨rfl, rfl⟩) fun r s₁ hr => ?_
  cases r with
  | error e => exact hr
  | ok fl =>
    cases fl with
    | next => exact hr
    | brk => exact hr
    | cont => exact hr
    | ret obj =>
      obtain ⟨rfl, rfl⟩ := hr
      have hS : (s.heap.push (newO (wled w))).get? s.heap.objs.size = some (newO (wled w)) := Heap.get?_push_size _ rfl
      have hT : Shared.TypeIs { s with heap := s.heap.push (newO (wled w)) } (.ref s.heap.objs.size) "set" := ⟨_, hS, rfl⟩
      have hli := C.init.lookup
      have hbi := C.init.bind (.ref s.heap.objs.size)
      repeat (any_goals (first | assumption | wp_step))
      refine codeAny_mono (init_code (s := { s with heap := s.heap.push (newO (wled w)) }) (led := wled w) (h0 := s.heap) (ns := ns)
        (R := wants (fun r s₂ => r = .none ∧ ∃ h' tk, s₂ = { s with heap := h', toks := tk } ∧ SetAt prog w h' s.heap.objs.size (ded ns) (wled w) ∧ ∀ b o, s.heap.get? b = some o → h'.get? b = some o) E)
        (by simp [hh]) hl hi hb rfl fun h' tk z k => ⟨rfl, h', tk, rfl, z, k⟩) fun r₂ s₂ hr₂ => ?_
      cases r₂ with
      | error e => exact hr₂
      | ok fl₂ =>
        cases fl₂ with
        | next => exact hr₂
        | brk => exact hr₂
        | cont => exact hr₂
        | ret r =>
          obtain ⟨rfl, h', tk, rfl, z, k⟩ := hr₂
          repeat (any_goals (first | assumption | wp_step))
          exact h _ _ z k
end
end LS
end

section
set_option Elab.async false
set_option linter.all false
set_option maxRecDepth 100000
set_option Elab.async false
set_option maxRecDepth 100000
namespace LS
open PySem PySem.Spec
theorem nx_slot : Slot "set_iterator" "__next__" "set_iterator.__next__" :=
  .of (owner := "set_iterator") (n := "__next__") (by rw [typeLookup_type, builtinLookup_eq_fast]; kernel_rfl) (by decide +kernel) (by decide +kernel) (by decide +kernel)
    (.inl (by decide +kernel)) (by rw [isSubtype_type]; kernel_rfl)
theorem nx_entry : entryFor table "set_iterator.__next__" = some Builtin.«set_iterator.__next__» := entryFor_of_tree (by kernel_rfl)
theorem nx_owner : Manifest.owners.lookup (String.ofList ['r', 'o', 't', 'a', 'r', 'e', 't', 'i', '_', 't', 'e', 's'].reverse) = some Manifest.sig_set_iterator := by kernel_rfl
theorem nx_args (a : Value) : argsOk "set_iterator.__next__" ⟨[a], []⟩ := by
  unfold argsOk
  rw [signature?_of (id := "set_iterator.__next__") (n := ['_', '_', 't', 'x', 'e', 'n', '_', '_']) (o := ['r', 'o', 't', 'a', 'r', 'e', 't', 'i', '_', 't', 'e', 's']) (by kernel_rfl) nx_owner]
  kernel_rfl
theorem it_slot : Slot "set_iterator" "__iter__" "set_iterator.__iter__" :=
  .of (owner := "set_iterator") (n := "__iter__") (by rw [typeLookup_type, builtinLookup_eq_fast]; kernel_rfl) (by decide +kernel) (by decide +kernel) (by decide +kernel)
    (.inl (by decide +kernel)) (by rw [isSubtype_type]; kernel_rfl)
theorem it_entry : entryFor table "set_iterator.__iter__" = some Builtin.«dict_keyiterator.__iter__» :=
  entryFor_alias (id' := "dict_keyiterator.__iter__") (by kernel_rfl) rfl (by decide +kernel) (by kernel_rfl)
theorem it_args (a : Value) : argsOk "set_iterator.__iter__" ⟨[a], []⟩ := by
  unfold argsOk
  rw [signature?_of (id := "set_iterator.__iter__") (n := ['_', '_', 'r', 'e', 't', 'i', '_', '_']) (o := ['r', 'o', 't', 'a', 'r', 'e', 't', 'i', '_', 't', 'e', 's']) (by kernel_rfl) nx_owner]
  kernel_rfl
theorem si_entry : entryFor table "set.__iter__" = some Builtin.«frozenset.__iter__» :=
  entryFor_alias (id' := "frozenset.__iter__") (by kernel_rfl) rfl (by decide +kernel) (by kernel_rfl)

abbrev itO (first : Value) (i : Nat) (a : Addr) (n ep : Nat) : Obj := { cls := .type "set_iterator", data := .fields #[first, .int i 0, .ref a, .int n 0, .int ep 0] }

section
variable {prog : Program} {w : World} {A : Around} {E : Value → Shared → Prop} {s : Shared}
theorem it_self {I a : Addr} {first : Value} {i n ep : Nat} {Q : Value → Shared → Prop} (hI : s.heap.get? I = some (itO first i a n ep)) (h : Q (.ref I) s) : wpAny (model prog w) A (pyIter (.ref I)) Q E s := by
  have hT : s.TypeIs (.ref I) "set_iterator" := ⟨_, hI, rfl⟩
  refine wpAny_pyIter_slot hT it_slot (wpAny_call_entry it_slot hT it_entry ?_ (it_args _))
  show wpAny _ _ (ret (.ref I)) _ _ s
  exact wpAny_pure ⟨_, rfl, "set_iterator", _, hT, nx_slot.lookup, h⟩

/-- the next item where the iterator goes by places -/
theorem nx_item {I a : Addr} {slot i ep nxt : Nat} {o : Obj} {es : Array (Int × Value)} {t : SetTable} {x : Value} {Q : Option Value → Shared → Prop}
    (hI : s.heap.get? I = some (itO (.int slot 0) i a es.size ep)) (ho : s.heap.get? a = some o) (hd : o.data = .set es ep t) (hf : t.fits es.size = true) (hne : a ≠ I)
    (hn : ∀ (s : Shared) (Q : Option (Value × Nat) → Shared → Prop) (E : Value → Shared → Prop), s.heap.get? a = some o → Q (some (x, nxt)) s → wpAny (model prog w) A.in1 (setNext a slot i ep) Q E s)
    (hQ : ∀ h', h'.get? I = some (itO (.int nxt 0) (i + 1) a es.size ep) → Heap.SameBut I s.heap h' → Q (some x) { s with heap := h' }) :
    wpAny (model prog w) A (pyNext (.ref I)) Q E s := by
  have hT : s.TypeIs (.ref I) "set_iterator" := ⟨_, hI, rfl⟩
  unfold pyNext
  refine wpAny_bind (wpAny_attempt (wpAny_callSpecial?_slot (name := Str.ofString "__next__") hT nx_slot (wpAny_call_entry nx_slot hT nx_entry ?_ (nx_args _))))
  unfold Builtin.«set_iterator.__next__»
  refine wpAny_bind (wpAny_pure ?_)
  refine wpAny_bind (wpAny_fieldsOf hI rfl ?_)
  dsimp only
  refine wpAny_bind (wpAny_setEntries_of ho hd hf ?_)
  refine wpAny_ite_split (fun q => absurd q (by simp)) (fun _ => ?_)
  refine wpAny_bind (hn s _ _ ho ?_)
  refine wpAny_bind (wpAny_setField_rec (k := 0) hI (by simp) fun h1 e1 b1 => ?_)
  refine wpAny_bind (wpAny_setField_rec (k := 1) e1 (by simp) fun h2 e2 b2 => ?_)
  exact wpAny_pure ⟨_, rfl, wpAny_pure (hQ h2 (by rw [e2]; rfl) (b1.trans b2))⟩

/-- the end, by places -/
theorem nx_end {I a : Addr} {slot i ep : Nat} {o : Obj} {es : Array (Int × Value)} {t : SetTable} {Q : Option Value → Shared → Prop} (hh : A.handled = none)
    (hI : s.heap.get? I = some (itO (.int slot 0) i a es.size ep)) (ho : s.heap.get? a = some o) (hd : o.data = .set es ep t) (hf : t.fits es.size = true)
    (hn : ∀ (s : Shared) (Q : Option (Value × Nat) → Shared → Prop) (E : Value → Shared → Prop), s.heap.get? a = some o → Q none s → wpAny (model prog w) A.in1 (setNext a slot i ep) Q E s)
    (hQ : ∀ h', Heap.ExtBut I s.heap h' → Q none { s with heap := h' }) :
    wpAny (model prog w) A (pyNext (.ref I)) Q E s := by
  have hT : s.TypeIs (.ref I) "set_iterator" := ⟨_, hI, rfl⟩
  unfold pyNext
  refine wpAny_bind (wpAny_attempt (wpAny_callSpecial?_slot (name := Str.ofString "__next__") hT nx_slot (wpAny_call_entry nx_slot hT nx_entry ?_ (nx_args _))))
  unfold Builtin.«set_iterator.__next__»
  refine wpAny_bind (wpAny_pure ?_)
  refine wpAny_bind (wpAny_fieldsOf hI rfl ?_)
  dsimp only
  refine wpAny_bind (wpAny_setEntries_of ho hd hf ?_)
  refine wpAny_ite_split (fun q => absurd q (by simp)) (fun _ => ?_)
  refine wpAny_bind (hn s _ _ ho ?_)
  refine wpAny_bind (wpAny_setField_rec (k := 2) hI (by simp) fun h1 e1 b1 => ?_)
  simp only [newExc, newTuple]
  refine wpAny_bind ?_
  refine wpAny_bind (wpAny_newObj_type ?_ (by size_fits))
  refine wpAny_bind (m := firstArgMember _ _) (wpAny_of_eq (a := Value.none) (by first | rfl | (simp only [firstArgMember]; rfl)) ?_)
  refine wpAny_newObj_type ?_ (by size_fits)
  simp only [raiseNew]
  refine wpAny_bind (wpAny_handled ?_)
  rw [show A.in1.handled = none from hh]
  refine wpAny_bind (wpAny_pure (wpAny_throw ?_))
  refine wpAny_bind (wpAny_isInstance (T := "StopIteration") (b := true) ⟨_, Heap.get?_push_size _ rfl, rfl⟩ isSubtype_stop ?_)
  exact wpAny_pure (hQ _ ((b1.extBut.push _).push _))
end
end LS
end

section
set_option Elab.async false
set_option linter.all false
set_option maxRecDepth 100000
set_option Elab.async false
set_option maxRecDepth 100000
namespace LS
open PySem PySem.Spec

theorem out_perm {α : Type} {l : List α} {i : Nat} (h : i < l.length) : (l[i] :: l.eraseIdx i).Perm l := by
  rw [List.eraseIdx_eq_take_drop_succ]
  refine List.perm_middle.symm.trans ?_
  rw [← List.drop_eq_getElem_cons h, List.take_append_drop]
theorem pick_perm {α : Type} (f : Nat → Nat) : ∀ (n k : Nat) (left : List α) (out : Array α), left.length = n → (pickOrder.go f n k left out).toList.Perm (out.toList ++ left)
  | 0, k, left, out, h => by
    have e : left = [] := List.eq_nil_of_length_eq_zero h
    subst e
    unfold pickOrder.go
    simp
  | n + 1, k, left, out, h => by
    unfold pickOrder.go
    have hl : f k % left.length < left.length := Nat.mod_lt _ (by omega)
    rw [List.getElem?_eq_getElem hl]
    dsimp only
    refine (pick_perm f n (k + 1) _ _ (by rw [List.length_eraseIdx_of_lt hl]; omega)).trans ?_
    rw [Array.toList_push, List.append_assoc]
    refine List.Perm.append_left _ ?_
    exact out_perm hl
theorem pick_all {α : Type} (f : Nat → Nat) (xs : Array α) : (pickOrder f xs).toList.Perm xs.toList := by
  unfold pickOrder
  have := pick_perm f xs.size 0 xs.toList #[] (by simp)
  simpa using this

section
variable {prog : Program} {w : World} {A : Around} {E : Value → Shared → Prop} {s : Shared}

theorem byText_is {Q : Bool → Shared → Prop} (h : Q (w.params.followText "set-order") s) : wpAny (model prog w) A setsByText Q E s := by
  unfold setsByText
  exact wpAny_bind (wpAny_askSetting (wpAny_pure h))

theorem next_text {a : Addr} {slot i ep : Nat} {o : Obj} {es : Array (Int × Value)} {t : SetTable} {Q : Option (Value × Nat) → Shared → Prop} (hw : w.params.followText "set-order" = true)
    (ho : s.heap.get? a = some o) (hd : o.data = .set es ep t) (hf : t.fits es.size = true) (h : Q (((pickOrder (w.params.setOrder a ep) es)[i]?).map fun e => (e.2, slot)) s) :
    wpAny (model prog w) A (setNext a slot i ep) Q E s := by
  unfold setNext
  refine wpAny_bind (wpAny_setState_of ho hd hf ?_)
  refine wpAny_bind (byText_is ?_)
  rw [hw]
  refine wpAny_ite_split (fun _ => ?_) (fun q => absurd rfl q)
  refine wpAny_ite_split (fun q => absurd q (by simp)) (fun _ => ?_)
  unfold setWalk
  refine wpAny_bind (wpAny_bind (wpAny_setState_of ho hd hf ?_))
  refine wpAny_bind (byText_is ?_)
  rw [hw]
  refine wpAny_ite_split (fun _ => ?_) (fun q => absurd rfl q)
  refine wpAny_bind (wpAny_askSetting (wpAny_pure ?_))
  exact wpAny_pure h

theorem next_plain {a : Addr} {slot i ep : Nat} {o : Obj} {es : Array (Int × Value)} {t : SetTable} {Q : Option (Value × Nat) → Shared → Prop} (hw : w.params.followText "set-order" = false)
    (ho : s.heap.get? a = some o) (hd : o.data = .set es ep t) (hf : t.fits es.size = true) (hl : t.led = true) (hp : (!t.plain && decide (es.size > 1)) = false)
    (h : Q (match es[SetTable.below t.place slot]?, t.place[SetTable.below t.place slot]? with | some (_, x), some j => some (x, j + 1) | _, _ => none) s) :
    wpAny (model prog w) A (setNext a slot i ep) Q E s := by
  unfold setNext
  refine wpAny_bind (wpAny_setState_of ho hd hf ?_)
  refine wpAny_bind (byText_is ?_)
  rw [hw]
  refine wpAny_ite_split (fun q => absurd q (by simp)) (fun _ => ?_)
  refine wpAny_ite_split (fun q => ?_) (fun _ => ?_)
  · have z : (!t.plain && decide (es.size > 1)) = true := q
    rw [hp] at z
    cases z
  · refine wpAny_bind (wpAny_ite_split (fun q => ?_) (fun _ => wpAny_pure ?_))
    · rw [hl] at q
      cases q
    · exact wpAny_pure h
end
end LS
end

section
set_option Elab.async false
set_option linter.all false
set_option maxRecDepth 100000
set_option Elab.async false
set_option maxRecDepth 100000
namespace LS
open PySem PySem.Spec
section
variable {prog : Program} {w : World} {A : Around} {E : Value → Shared → Prop} {s : Shared}

theorem choose_any {src : Source} {n : Nat} {Q : Nat → Shared → Prop} (hn : n ≠ 0) (h : ∀ i d', i < n → Q i { s with drawn := d' }) : wpAny (model prog w) A (choose src n) Q E s :=
  fun _ _ _ => ⟨hn, h _ _ (Nat.mod_lt _ (Nat.pos_of_ne_zero hn))⟩

theorem draw_perm {α : Type} : ∀ (n : Nat) (xs : List α) (s : Shared) (Q : List α → Shared → Prop), xs.length = n → (∀ ys d', ys.Perm xs → Q ys { s with drawn := d' }) → wpAny (model prog w) A (drawOrder n xs) Q E s
  | 0, xs, s, Q, hl, h => by
    have e : xs = [] := List.eq_nil_of_length_eq_zero hl
    subst e
    exact wpAny_pure (h [] s.drawn .nil)
  | n + 1, [], s, Q, hl, h => by cases hl
  | n + 1, x :: r, s, Q, hl, h => by
    show wpAny (model prog w) A (choose .order (x :: r).length >>= _) Q E s
    refine wpAny_bind (choose_any (by simp) fun i d' hi => ?_)
    rw [List.getElem?_eq_getElem hi]
    dsimp only
    refine wpAny_bind (draw_perm n _ _ _ (by rw [List.length_eraseIdx_of_lt hi]; omega) fun ys d2 hp => wpAny_pure ?_)
    exact h _ d2 ((hp.cons _).trans (out_perm hi))

theorem si_iter {a : Addr} {o : Obj} {es : Array (Int × Value)} {ep : Nat} {t : SetTable} {Q : Value → Shared → Prop}
    (ho : s.heap.get? a = some o) (hx : o.ExactSet) (hd : o.data = .set es ep t) (hf : t.fits es.size = true) (hz : es.size ≤ sizeLine)
    (h1 : (w.params.followText "set-order" = true ∨ (!t.plain && decide (es.size > 1)) = false) → Q (.ref s.heap.objs.size) { s with heap := s.heap.push (itO (.int 0 0) 0 a es.size ep) })
    (h2 : w.params.followText "set-order" = false → (!t.plain && decide (es.size > 1)) = true → ∀ (js : List Nat) d', js.Perm (List.range es.size) →
      Q (.ref (s.heap.objs.size + 1)) { s with drawn := d', heap := (s.heap.push { cls := .type "tuple", data := .seq (js.map fun (j : Nat) => Value.int j 0).toArray }).push (itO (.ref s.heap.objs.size) 0 a es.size ep) }) :
    wpAny (model prog w) A (pyIter (.ref a)) Q E s := by
  have hT : s.TypeIs (.ref a) "set" := ⟨o, ho, hx.1⟩
  refine wpAny_pyIter_slot hT F.slot_set_iter (wpAny_call_entry F.slot_set_iter hT si_entry ?_ (F.args_set_iter_1 _))
  unfold Builtin.«frozenset.__iter__»
  refine wpAny_bind (wpAny_pure ?_)
  refine wpAny_bind (wpAny_bind (wpAny_setEntries_of ho hd hf (wpAny_pure ?_)))
  unfold setDrawn
  refine wpAny_bind (wpAny_bind (wpAny_setState_of ho hd hf (wpAny_bind (byText_is (wpAny_pure ?_)))))
  refine wpAny_ite_split (fun q => ?_) (fun q => ?_)
  · have q' : (!w.params.followText "set-order" && (!t.plain && decide (es.size > 1))) = true := q
    rw [Bool.and_eq_true] at q'
    have qt : w.params.followText "set-order" = false := by
      cases e : w.params.followText "set-order" with
      | false => rfl
      | true => rw [e] at q'; cases q'.1
    refine wpAny_bind (draw_perm es.size (List.range es.size) _ _ (List.length_range) fun js d' hp => ?_)
    refine wpAny_bind (wpAny_newTuple ?_ (by rw [List.length_map, hp.length_eq, List.length_range]; exact hz))
    refine wpAny_bind (wpAny_setEpoch_of (Heap.get?_push_of_some _ ho) hd hf ?_)
    refine wpAny_bind (wpAny_newObj_type (wpAny_pure ⟨_, rfl, "set_iterator", _, ⟨_, Heap.get?_push_size _ rfl, rfl⟩, nx_slot.lookup, ?_⟩))
    have z := h2 qt q'.2 js d' hp
    rw [← PyProof.Rows.size_push' s.heap] at z
    exact z
  · refine wpAny_bind (wpAny_pure ?_)
    refine wpAny_bind (wpAny_setEpoch_of ho hd hf ?_)
    refine wpAny_bind (wpAny_newObj_type (wpAny_pure ⟨_, rfl, "set_iterator", _, ⟨_, Heap.get?_push_size _ rfl, rfl⟩, nx_slot.lookup, ?_⟩))
    refine h1 ?_
    have q' : ¬ (!w.params.followText "set-order" && (!t.plain && decide (es.size > 1))) = true := q
    cases e : w.params.followText "set-order" with
    | true => exact .inl rfl
    | false =>
      rw [e] at q'
      exact .inr (by simpa using q')
end
end LS
end

section
set_option Elab.async false
set_option linter.all false
set_option maxRecDepth 100000
set_option Elab.async false
set_option maxRecDepth 100000
namespace LS
open PySem PySem.Spec
section
variable {prog : Program} {w : World} {A : Around} {E : Value → Shared → Prop} {s : Shared}

abbrev tupO (js : List Nat) : Obj := { cls := .type "tuple", data := .seq (js.map fun (j : Nat) => Value.int j 0).toArray }
/-- the next item where the order was drawn -/
theorem nxD_item {I a T : Addr} {i ep j : Nat} {z : Int} {o : Obj} {es : Array (Int × Value)} {t : SetTable} {x : Value} {js : List Nat} {Q : Option Value → Shared → Prop}
    (hI : s.heap.get? I = some (itO (.ref T) i a es.size ep)) (ho : s.heap.get? a = some o) (hd : o.data = .set es ep t) (hf : t.fits es.size = true)
    (hT : s.heap.get? T = some (tupO js)) (hj : js[i]? = some j) (hx : es[j]? = some (z, x))
    (hQ : ∀ h', h'.get? I = some (itO (.ref T) (i + 1) a es.size ep) → Heap.SameBut I s.heap h' → Q (some x) { s with heap := h' }) :
    wpAny (model prog w) A (pyNext (.ref I)) Q E s := by
  have hTI : s.TypeIs (.ref I) "set_iterator" := ⟨_, hI, rfl⟩
  unfold pyNext
  refine wpAny_bind (wpAny_attempt (wpAny_callSpecial?_slot (name := Str.ofString "__next__") hTI nx_slot (wpAny_call_entry nx_slot hTI nx_entry ?_ (nx_args _))))
  unfold Builtin.«set_iterator.__next__»
  refine wpAny_bind (wpAny_pure ?_)
  refine wpAny_bind (wpAny_fieldsOf hI rfl ?_)
  dsimp only
  refine wpAny_bind (wpAny_setEntries_of ho hd hf ?_)
  refine wpAny_ite_split (fun q => absurd q (by simp)) (fun _ => ?_)
  refine wpAny_bind (wpAny_seqItems hT rfl ?_)
  have hp : (js.map fun (j : Nat) => Value.int j 0).toArray[(i : Int).toNat]? = some (Value.int j 0) := by
    rw [Int.toNat_natCast, List.getElem?_toArray, List.getElem?_map, hj]
    rfl
  dsimp only
  rw [hp]
  dsimp only
  unfold setNextDrawn
  refine wpAny_bind (wpAny_bind (wpAny_setState_of ho hd hf ?_))
  refine wpAny_ite_split (fun q => absurd q (by simp)) (fun _ => ?_)
  rw [Int.toNat_natCast, hx]
  refine wpAny_pure ?_
  refine wpAny_bind (wpAny_setField_rec (k := 1) hI (by simp) fun h1 e1 b1 => ?_)
  exact wpAny_pure ⟨_, rfl, wpAny_pure (hQ h1 (by rw [e1]; rfl) b1)⟩

theorem nxD_end {I a T : Addr} {i ep : Nat} {o : Obj} {es : Array (Int × Value)} {t : SetTable} {js : List Nat} {Q : Option Value → Shared → Prop} (hh : A.handled = none)
    (hI : s.heap.get? I = some (itO (.ref T) i a es.size ep)) (ho : s.heap.get? a = some o) (hd : o.data = .set es ep t) (hf : t.fits es.size = true)
    (hT : s.heap.get? T = some (tupO js)) (hj : js[i]? = none)
    (hQ : ∀ h', Heap.ExtBut I s.heap h' → Q none { s with heap := h' }) :
    wpAny (model prog w) A (pyNext (.ref I)) Q E s := by
  have hTI : s.TypeIs (.ref I) "set_iterator" := ⟨_, hI, rfl⟩
  unfold pyNext
  refine wpAny_bind (wpAny_attempt (wpAny_callSpecial?_slot (name := Str.ofString "__next__") hTI nx_slot (wpAny_call_entry nx_slot hTI nx_entry ?_ (nx_args _))))
  unfold Builtin.«set_iterator.__next__»
  refine wpAny_bind (wpAny_pure ?_)
  refine wpAny_bind (wpAny_fieldsOf hI rfl ?_)
  dsimp only
  refine wpAny_bind (wpAny_setEntries_of ho hd hf ?_)
  refine wpAny_ite_split (fun q => absurd q (by simp)) (fun _ => ?_)
  refine wpAny_bind (wpAny_seqItems hT rfl ?_)
  have hp : (js.map fun (j : Nat) => Value.int j 0).toArray[(i : Int).toNat]? = none := by
    rw [Int.toNat_natCast, List.getElem?_toArray, List.getElem?_map, hj]
    rfl
  dsimp only
  rw [hp]
  dsimp only
  refine wpAny_bind (wpAny_setField_rec (k := 0) hI (by simp) fun h0 e0 b0 => ?_)
  refine wpAny_bind (wpAny_setField_rec (k := 2) e0 (by simp) fun h1 e1 b1 => ?_)
  simp only [newExc, newTuple]
  refine wpAny_bind ?_
  refine wpAny_bind (wpAny_newObj_type ?_ (by size_fits))
  refine wpAny_bind (m := firstArgMember _ _) (wpAny_of_eq (a := Value.none) (by first | rfl | (simp only [firstArgMember]; rfl)) ?_)
  refine wpAny_newObj_type ?_ (by size_fits)
  simp only [raiseNew]
  refine wpAny_bind (wpAny_handled ?_)
  rw [show A.in1.handled = none from hh]
  refine wpAny_bind (wpAny_pure (wpAny_throw ?_))
  refine wpAny_bind (wpAny_isInstance (T := "StopIteration") (b := true) ⟨_, Heap.get?_push_size _ rfl, rfl⟩ isSubtype_stop ?_)
  exact wpAny_pure (hQ _ (((b0.trans b1).extBut.push _).push _))
end
end LS
end

section
set_option Elab.async false
set_option linter.all false
set_option maxRecDepth 100000
set_option Elab.async false
set_option maxRecDepth 100000
namespace LS
open PySem PySem.Spec
section
variable {prog : Program} {w : World} {A : Around} {E : Value → Shared → Prop} {s : Shared}

theorem walk_text (hh : A.handled = none) (I a : Addr) (hne : a ≠ I) {o : Obj} {es : Array (Int × Value)} {ep : Nat} {t : SetTable} (hw : w.params.followText "set-order" = true) (hd : o.data = .set es ep t) (hf : t.fits es.size = true) :
    Walks prog w A I [I, a] [I] es.size (fun i v => ((pickOrder (w.params.setOrder a ep) es).toList.map (·.2))[i]? = some v) (fun i h => h.get? I = some (itO (.int (0 : Nat) 0) i a es.size ep) ∧ h.get? a = some o) where
  sub := fun b hb => by simp at hb; simp [hb]
  frame := fun _ _ _ st hk => ⟨hk I (by simp) _ st.1, hk a (by simp) _ st.2⟩
  item := fun i s Q E hi st hQ => by
    have hl : i < (pickOrder (w.params.setOrder a ep) es).size := by
      rw [← Array.length_toList, (pick_all _ es).length_eq, Array.length_toList]
      exact hi
    refine nx_item (slot := 0) (nxt := 0) (x := (pickOrder (w.params.setOrder a ep) es)[i].2) st.1 st.2 hd hf hne (fun s1 Q1 E1 h1 q => next_text hw h1 hd hf ?_) fun h' e1 b1 => ?_
    · rw [Array.getElem?_eq_getElem hl]
      exact q
    · refine hQ _ h' s.toks ?_ ⟨e1, (b1.2 a hne).trans st.2⟩ fun b o2 hb e => (b1.2 b fun z => hb (by simp [z])).trans e
      rw [List.getElem?_map, Array.getElem?_toList, Array.getElem?_eq_getElem hl]
      rfl
  done := fun s Q E st hQ => by
    have hl : (pickOrder (w.params.setOrder a ep) es).size ≤ es.size := by
      rw [← Array.length_toList, (pick_all _ es).length_eq, Array.length_toList]
      exact Nat.le_refl _
    refine nx_end (slot := 0) hh st.1 st.2 hd hf (fun s1 Q1 E1 h1 q => next_text hw h1 hd hf ?_) fun h' e1 => hQ h' s.toks fun b o2 hb e => e1 b o2 (fun z => hb (by simp [z])) e
    rw [Array.getElem?_eq_none hl]
    exact q
  self := fun _ _ _ _ st hQ => it_self st.1 hQ

/-- where the walk by places stands ahead of its i-th item -/
def stand (p : Array Nat) : Nat → Nat
  | 0 => 0
  | i + 1 => p.getD i 0 + 1
theorem below_stand {p : Array Nat} (h : Rise p) : ∀ i, i ≤ p.size → SetTable.below p (stand p i) = i
  | 0, _ => below_zero h
  | i + 1, hi => below_next h hi

theorem walk_plain (hh : A.handled = none) (I a : Addr) (hne : a ≠ I) {o : Obj} {es : Array (Int × Value)} {ep : Nat} {t : SetTable} (hw : w.params.followText "set-order" = false) (hd : o.data = .set es ep t) (hf : t.fits es.size = true)
    (ht : Tab t true) (hp : (!t.plain && decide (es.size > 1)) = false) :
    Walks prog w A I [I, a] [I] es.size (fun i v => (es.toList.map (·.2))[i]? = some v) (fun i h => h.get? I = some (itO (.int (stand t.place i) 0) i a es.size ep) ∧ h.get? a = some o) where
  sub := fun b hb => by simp at hb; simp [hb]
  frame := fun _ _ _ st hk => ⟨hk I (by simp) _ st.1, hk a (by simp) _ st.2⟩
  item := fun i s Q E hi st hQ => by
    have hps : t.place.size = es.size := by
      simp only [SetTable.fits, Bool.and_eq_true, beq_iff_eq] at hf
      exact hf.1
    have hi2 : i < t.place.size := by omega
    refine nx_item (slot := stand t.place i) (nxt := stand t.place (i + 1)) (x := es[i].2) st.1 st.2 hd hf hne (fun s1 Q1 E1 h1 q => next_plain hw h1 hd hf ht.led hp ?_) fun h' e1 b1 => ?_
    · rw [below_stand ht.rise i (by omega), Array.getElem?_eq_getElem hi, Array.getElem?_eq_getElem hi2]
      have e : stand t.place (i + 1) = t.place[i] + 1 := by simp [stand, Array.getD, hi2]
      rw [e] at q
      exact q
    · refine hQ _ h' s.toks ?_ ⟨e1, (b1.2 a hne).trans st.2⟩ fun b o2 hb e => (b1.2 b fun z => hb (by simp [z])).trans e
      rw [List.getElem?_map, Array.getElem?_toList, Array.getElem?_eq_getElem hi]
      rfl
  done := fun s Q E st hQ => by
    have hps : t.place.size = es.size := by
      simp only [SetTable.fits, Bool.and_eq_true, beq_iff_eq] at hf
      exact hf.1
    refine nx_end (slot := stand t.place es.size) hh st.1 st.2 hd hf (fun s1 Q1 E1 h1 q => next_plain hw h1 hd hf ht.led hp ?_) fun h' e1 => hQ h' s.toks fun b o2 hb e => e1 b o2 (fun z => hb (by simp [z])) e
    rw [below_stand ht.rise es.size (by omega), Array.getElem?_eq_none (Nat.le_refl _)]
    exact q
  self := fun _ _ _ _ st hQ => it_self st.1 hQ

def byDraw (es : Array (Int × Value)) (js : List Nat) : List Value := js.map fun j => (es.getD j (0, .none)).2
theorem byDraw_perm {es : Array (Int × Value)} {js : List Nat} (h : js.Perm (List.range es.size)) : (byDraw es js).Perm (es.toList.map (·.2)) := by
  refine (h.map _).trans (List.Perm.of_eq ?_)
  refine List.ext_getElem (by simp) fun i h1 h2 => ?_
  have hi : i < es.size := by simpa using h2
  simp [Array.getD, hi]
theorem walk_drawn (hh : A.handled = none) (I a T : Addr) (hne : a ≠ I) (hTI : T ≠ I) {o : Obj} {es : Array (Int × Value)} {ep : Nat} {t : SetTable} {js : List Nat} (hd : o.data = .set es ep t) (hf : t.fits es.size = true)
    (hj : js.Perm (List.range es.size)) :
    Walks prog w A I [I, a, T] [I] es.size (fun i v => (byDraw es js)[i]? = some v) (fun i h => h.get? I = some (itO (.ref T) i a es.size ep) ∧ h.get? a = some o ∧ h.get? T = some (tupO js)) where
  sub := fun b hb => by simp at hb; simp [hb]
  frame := fun _ _ _ st hk => ⟨hk I (by simp) _ st.1, hk a (by simp) _ st.2.1, hk T (by simp) _ st.2.2⟩
  item := fun i s Q E hi st hQ => by
    have hl : js.length = es.size := by rw [hj.length_eq, List.length_range]
    have hi2 : i < js.length := by omega
    have hm : js[i] < es.size := List.mem_range.mp (hj.mem_iff.mp (List.getElem_mem hi2))
    refine nxD_item (j := js[i]) (z := es[js[i]].1) (x := es[js[i]].2) st.1 st.2.1 hd hf st.2.2 (List.getElem?_eq_getElem hi2) (Array.getElem?_eq_getElem hm) fun h' e1 b1 => ?_
    refine hQ _ h' s.toks ?_ ⟨e1, (b1.2 a hne).trans st.2.1, (b1.2 T hTI).trans st.2.2⟩ fun b o2 hb e => (b1.2 b fun z => hb (by simp [z])).trans e
    unfold byDraw
    rw [List.getElem?_map, List.getElem?_eq_getElem hi2]
    simp [Array.getD, hm]
  done := fun s Q E st hQ => by
    have hl : js.length = es.size := by rw [hj.length_eq, List.length_range]
    exact nxD_end hh st.1 st.2.1 hd hf st.2.2 (List.getElem?_eq_none (by omega)) fun h' e1 => hQ h' s.toks fun b o2 hb e => e1 b o2 (fun z => hb (by simp [z])) e
  self := fun _ _ _ _ st hQ => it_self st.1 hQ

/-- an iterator of the set at a, made from the heap h0, that will hand out ord -/
def Ready (prog : Program) (w : World) (A : Around) (a : Addr) (h0 : Heap) (I : Addr) (h1 : Heap) (ord : List Value) : Prop :=
  ∃ fp St, Walks prog w A I fp [I] ord.length (fun i v => ord[i]? = some v) St ∧ St 0 h1 ∧ (∀ b o, h0.get? b = some o → h1.get? b = some o) ∧ (∀ b ∈ fp, b = a ∨ h0.objs.size ≤ b) ∧ h0.objs.size ≤ I

theorem Ready.of {a I : Addr} {h0 h1 : Heap} {ord : List Value} {fp : List Addr} {n : Nat} {St : Nat → Heap → Prop} (W : Walks prog w A I fp [I] n (fun i v => ord[i]? = some v) St) (hn : ord.length = n) (st : St 0 h1)
    (k : ∀ b o, h0.get? b = some o → h1.get? b = some o) (hfp : ∀ b ∈ fp, b = a ∨ h0.objs.size ≤ b) (hI : h0.objs.size ≤ I) : Ready prog w A a h0 I h1 ord := by
  subst hn
  exact ⟨fp, St, W, st, k, hfp, hI⟩
theorem iv_all {es : List (Int × Value)} (hel : ElemsOf (intKind prog w) es) : ∀ v ∈ es.map (·.2), ∃ k t, v = Value.int k t := by
  intro v hv
  obtain ⟨e, he, rfl⟩ := List.mem_map.mp hv
  obtain ⟨⟨k, hk, _⟩, _⟩ := hel e he
  obtain ⟨t, ev⟩ := Value.isInt_shape (k := k) (v := e.2) hk
  exact ⟨k, t, ev⟩

theorem iter_set (hh : A.handled = none) {a : Addr} {ks : List Int} {Q : Value → Shared → Prop} (hS : SetAt prog w s.heap a ks (wled w))
    (h : ∀ (ord : List Value) (I : Addr) (h1 : Heap) (d : Drawn), (ord.map iv).Perm ks → (∀ v ∈ ord, ∃ k t, v = Value.int k t) → Ready prog w A a s.heap I h1 ord → Q (.ref I) { s with heap := h1, drawn := d }) :
    wpAny (model prog w) A (pyIter (.ref a)) Q E s := by
  obtain ⟨o, es, ep, t, ho, hx, hd, hel, hb, hf, ht, hp⟩ := hS
  have hlt : a < s.heap.objs.size := Heap.lt_size ho
  have hall := iv_all hel
  have hpm : ((es.toList.map (·.2)).map iv).Perm ks := by rw [List.map_map]; exact hp
  have go : ∀ {ord : List Value}, ord.Perm (es.toList.map (·.2)) → (ord.map iv).Perm ks ∧ (∀ v ∈ ord, ∃ k t, v = Value.int k t) ∧ ord.length = es.size := fun {ord} q =>
    ⟨(q.map iv).trans hpm, fun v hv => hall v (q.mem_iff.mp hv), by rw [q.length_eq, List.length_map, Array.length_toList]⟩
  refine si_iter ho hx hd hf (fits_of_scanBound hb) (fun hc => ?_) (fun hw hdr js d hj => ?_)
  · have hI : s.heap.objs.size ≠ a := Nat.ne_of_gt hlt
    have hpush : (s.heap.push (itO (.int 0 0) 0 a es.size ep)).get? s.heap.objs.size = some (itO (.int 0 0) 0 a es.size ep) := Heap.get?_push_size _ rfl
    cases hw : w.params.followText "set-order" with
    | true =>
      obtain ⟨g1, g2, g3⟩ := go ((pick_all (w.params.setOrder a ep) es).map (·.2))
      have W := walk_text (prog := prog) (A := A) hh s.heap.objs.size a (Ne.symm hI) hw hd hf
      refine h _ _ _ s.drawn g1 g2 (Ready.of W g3 ⟨hpush, Heap.get?_push_of_some _ ho⟩ (fun b o2 e => Heap.get?_push_of_some _ e) (fun b hb => ?_) (Nat.le_refl _))
      simp at hb
      rcases hb with rfl | rfl
      · exact .inr (Nat.le_refl _)
      · exact .inl rfl
    | false =>
      have hc2 : (!t.plain && decide (es.size > 1)) = false := by
        rcases hc with z | z
        · rw [hw] at z; cases z
        · exact z
      have hl : wled w = true := by unfold wled; rw [hw]; rfl
      rw [hl] at ht
      obtain ⟨g1, g2, g3⟩ := go (List.Perm.refl _)
      have W := walk_plain (prog := prog) (A := A) hh s.heap.objs.size a (Ne.symm hI) hw hd hf ht hc2
      refine h _ _ _ s.drawn g1 g2 (Ready.of W g3 ⟨hpush, Heap.get?_push_of_some _ ho⟩ (fun b o2 e => Heap.get?_push_of_some _ e) (fun b hb => ?_) (Nat.le_refl _))
      simp at hb
      rcases hb with rfl | rfl
      · exact .inr (Nat.le_refl _)
      · exact .inl rfl
  · obtain ⟨g1, g2, g3⟩ := go (byDraw_perm hj)
    have n1 : a ≠ s.heap.objs.size + 1 := Nat.ne_of_lt (Nat.lt_succ_of_lt hlt)
    have n2 : s.heap.objs.size ≠ s.heap.objs.size + 1 := Nat.ne_of_lt (Nat.lt_succ_self _)
    have W := walk_drawn (prog := prog) (w := w) (A := A) hh (s.heap.objs.size + 1) a s.heap.objs.size n1 n2 hd hf hj
    have e0 : ((s.heap.push (tupO js)).push (itO (.ref s.heap.objs.size) 0 a es.size ep)).get? (s.heap.objs.size + 1) = some (itO (.ref s.heap.objs.size) 0 a es.size ep) := by
      rw [← PyProof.Rows.size_push' s.heap]
      exact Heap.get?_push_size _ rfl
    refine h _ _ _ d g1 g2 (Ready.of W g3 ⟨e0, Heap.get?_push_of_some _ (Heap.get?_push_of_some _ ho), Heap.get?_push_of_some _ (Heap.get?_push_size _ rfl)⟩ (fun b o2 e => Heap.get?_push_of_some _ (Heap.get?_push_of_some _ e)) (fun b hb => ?_) (Nat.le_succ _))
    simp at hb
    rcases hb with rfl | rfl | rfl
    · exact .inr (Nat.le_succ _)
    · exact .inl rfl
    · exact .inr (Nat.le_refl _)
end
end LS
end

section
set_option Elab.async false
set_option linter.all false
set_option maxRecDepth 100000
set_option Elab.async false
set_option maxRecDepth 100000
namespace LS
open PySem PySem.Spec PyProof.Rows
section
variable {prog : Program} {w : World} {A : Around} {E : Value → Shared → Prop} {s : Shared}

theorem hint_set {r : Addr} {Q : Bool → Shared → Prop} (hT : s.TypeIs (.ref r) "set") (h : Q false s) : wpAny (model prog w) A (Builtin.List.listLengthHint (.ref r)) Q E s := by
  unfold Builtin.List.listLengthHint
  refine wpAny_bind (wpAny_specialOf hT PySem.F.slot_set_len.lookup ?_)
  generalize hid : ("set.__len__" : String) = id0
  wp_delta
  rw [show splitId id0 = some ("set", "__len__") from by subst hid; decide +kernel]
  subst hid
  refine wpAny_bind (wpAny_isInstance (T := "set") (b := true) hT (by rw [isSubtype_type]; kernel_rfl) ?_)
  refine wpAny_ite_split (fun q => absurd q (by decide)) (fun _ => ?_)
  refine wpAny_ite_split (fun _ => ?_) (fun q => absurd (by decide +kernel) q)
  exact wpAny_bind (wpAny_typeOf hT (wpAny_pure h))

theorem items_are {ord : List Value} {acc : Array Value} (h : ItemsOf (fun i v => ord[i]? = some v) acc ord.length) : acc.toList = ord := by
  refine List.ext_getElem (by rw [Array.length_toList]; exact h.1) fun i h1 h2 => ?_
  have e : acc[i]? = some (acc.toList[i]) := by rw [← Array.getElem?_toList]; exact List.getElem?_eq_getElem h1
  have z : ord[i]? = some (acc.toList[i]) := h.2 i _ e
  rw [List.getElem?_eq_getElem h2] at z
  exact (Option.some.inj z).symm

theorem collect_set (hh : A.handled = none) {a : Addr} {ks : List Int} {Q : List Value → Shared → Prop} (hS : SetAt prog w s.heap a ks (wled w)) (hks : ks.length ≤ sizeLine)
    (h : ∀ (ord : List Value) (h1 : Heap) (d : Drawn) (tk : Nat), (ord.map iv).Perm ks → (∀ v ∈ ord, ∃ k t, v = Value.int k t) → (∀ b o, s.heap.get? b = some o → h1.get? b = some o) → Q ord { s with heap := h1, drawn := d, toks := tk }) :
    wpAny (model prog w) A (collect (.ref a)) Q E s := by
  have hlt : a < s.heap.objs.size := by
    obtain ⟨o, _, _, _, ho, _⟩ := hS
    exact Heap.lt_size ho
  unfold collect
  refine wpAny_bind (wpAny_runValue (codeAny_builtin entry_proto_collect' ?_))
  rw [Around.under_plainId PySem.F.plain_proto_collect _]
  show wpAny _ A.in1 (newList [] >>= fun l => again (.builtin "list.__iadd__" ⟨[l, .ref a], []⟩)) _ _ s
  refine wpAny_bind (wpAny_newObj_type ?_)
  refine wpAny_pure ⟨plainId_quiet PySem.F.plain_list_iadd _, codeAny_builtin entry_list_iadd' ?_⟩
  rw [Around.under_plainId PySem.F.plain_list_iadd _]
  have e1 : (s.heap.push { cls := .type "list", data := .seq ([] : List Value).toArray }).get? s.heap.objs.size = some { cls := .type "list", data := .seq #[] } := Heap.get?_push_size _ rfl
  have hS1 := hS.at (h' := s.heap.push { cls := .type "list", data := .seq ([] : List Value).toArray }) fun o q => Heap.get?_push_of_some _ q
  show wpAny _ A.in1 (Builtin.List.listExtendWith (.ref s.heap.objs.size) (.ref a) (.ref s.heap.objs.size)) _ _ _
  unfold Builtin.List.listExtendWith
  have hT : Shared.TypeIs { s with heap := s.heap.push { cls := .type "list", data := .seq ([] : List Value).toArray } } (.ref a) "set" := by
    obtain ⟨o, _, _, _, ho, hx, _⟩ := hS1
    exact ⟨o, ho, hx.1⟩
  refine wpAny_bind (wpAny_typeOf hT ?_)
  have h1 : Builtin.List.listSameRef (.ref s.heap.objs.size) (.ref a) = false := by
    have : s.heap.objs.size ≠ a := Nat.ne_of_gt hlt
    simp [Builtin.List.listSameRef, this]
  have h2 : (Value.type "set" == Value.type "list") = false := by decide
  have h3 : (Value.type "set" == Value.type "tuple") = false := by decide
  simp only [h1, h2, h3, Bool.or_false, Bool.false_eq_true, if_false]
  refine wpAny_bind (iter_set (A := A.in1) (by simp [hh]) hS1 fun ord I hp d g1 g2 g3 => ?_)
  obtain ⟨fp, St, W, st, kp, hfp, hIn⟩ := g3
  have hn : ord.length ≤ sizeLine := by
    have := g1.length_eq
    rw [List.length_map] at this
    omega
  have e2 := kp _ _ e1
  have nf : s.heap.objs.size ∉ fp := fun z => by
    rcases hfp _ z with q | q
    · exact Nat.ne_of_gt hlt q
    · rw [size_push'] at q
      exact Nat.not_succ_le_self _ q
  have hT2 : Shared.TypeIs { s with heap := hp, drawn := d } (.ref a) "set" := by
    obtain ⟨o, ho, hx⟩ := hT
    exact ⟨o, kp _ _ ho, hx⟩
  refine wpAny_bind (wpAny_holding (hint_set hT2 ?_))
  have fin : ∀ (hq : Heap) (c : Nat), St 0 hq → (∀ b o, b ≠ s.heap.objs.size → hp.get? b = some o → hq.get? b = some o) → hq.get? s.heap.objs.size = some { cls := .type "list", data := .seq #[] c } →
      codeAny (model prog w) A (.builtin "list.extend.loop" ⟨[.ref s.heap.objs.size, .ref I, .ref s.heap.objs.size], []⟩) (fun r s' => ∃ (h' : Heap) (tk : Nat) (c' : Nat), r = .ok (.ret (.ref s.heap.objs.size)) ∧ s' = { s with heap := h', toks := tk, drawn := d } ∧
        (∀ b o, s.heap.get? b = some o → h'.get? b = some o) ∧ h'.get? s.heap.objs.size = some { cls := .type "list", dict := none, data := .seq ord.toArray c', slots := #[] }) { s with heap := hq, drawn := d } := by
    intro hq c st' kq hSq
    refine codeAny_extend_loopS W.toS hn s.heap.objs.size nf _ ord.length 0 _ #[] c rfl (Nat.zero_le _) st' hSq (ItemsOf.nil _) fun s' acc c' hm hs' hacc => ?_
    obtain ⟨h', gn, dr, tk, os⟩ := s'
    have m1 : gn = s.gens := hm.gens
    have m2 : dr = d := hm.drawn
    have m3 : os = s.os := hm.os
    subst m1 m2 m3
    have ea : acc = ord.toArray := by rw [← items_are hacc]
    subst ea
    refine ⟨h', tk, c', rfl, rfl, fun b o q => ?_, hs'⟩
    have hb := Heap.lt_size q
    have nb : b ≠ s.heap.objs.size := Nat.ne_of_lt hb
    refine hm.heap b o ?_ (kq b o nb (kp b o (Heap.get?_push_of_some _ q)))
    simp only [List.mem_cons, List.not_mem_nil, or_false, not_or]
    refine ⟨nb, fun z => ?_⟩
    rw [size_push', ← z] at hIn
    exact absurd hb (Nat.not_lt_of_le (Nat.le_of_succ_le hIn))
  have last : ∀ {r : Result} {s' : Shared}, (∃ (h' : Heap) (tk : Nat) (c' : Nat), r = .ok (.ret (.ref s.heap.objs.size)) ∧ s' = { s with heap := h', toks := tk, drawn := d } ∧
        (∀ b o, s.heap.get? b = some o → h'.get? b = some o) ∧ h'.get? s.heap.objs.size = some { cls := .type "list", dict := none, data := .seq ord.toArray c', slots := #[] }) → r = .ok (.ret (.ref s.heap.objs.size)) ∧
      wpAny (model prog w) A (do
        match (← load s.heap.objs.size).data with
        | .seq xs _ => pure xs.toList
        | _ => unsupported "internal:collect") Q E s' := fun {r s'} ⟨h', tk, c', hr, hs, k, e⟩ => by
    subst hs
    refine ⟨hr, wpAny_bind (wpAny_load e ?_)⟩
    exact wpAny_pure (h ord h' d tk g1 g2 k)
  refine wpAny_ite_split (fun _ => ?_) (fun _ => ?_)
  · refine wpAny_bind (wpAny_rule ?_)
    refine wpAny_bind ?_
    show wpAny _ _ (updateSeq s.heap.objs.size (·.push .none) >>= fun _ => updateSeq s.heap.objs.size (·.pop)) _ _ _
    refine wpAny_bind (wpAny_updateSeq e2 rfl ?_)
    have e3 := Heap.get?_update_self (Obj.mapSeq (·.push Value.none)) e2 rfl
    refine wpAny_updateSeq (hz := by seq_fits) e3 rfl ?_
    have e4 := Heap.get?_update_self (Obj.mapSeq (·.pop)) e3 rfl
    have oth : ∀ b o, b ≠ s.heap.objs.size → hp.get? b = some o → ((hp.update s.heap.objs.size (Obj.mapSeq (·.push Value.none))).update s.heap.objs.size (Obj.mapSeq (·.pop))).get? b = some o :=
      fun b o nb q => (Heap.get?_update_other _ _ (Ne.symm nb)).trans ((Heap.get?_update_other _ _ (Ne.symm nb)).trans q)
    refine wpAny_pure ⟨plainId_quiet PySem.F.plain_extend_loop _, codeAny_mono (fin _ _ (W.frame 0 _ _ st fun b hb o q => oth b o (fun z => nf (z ▸ hb)) q) oth e4) fun r s' x => ?_⟩
    obtain ⟨rfl, y⟩ := last x
    exact y
  · refine wpAny_pure ⟨plainId_quiet PySem.F.plain_extend_loop _, codeAny_mono (fin _ _ st (fun b o _ q => q) e2) fun r s' x => ?_⟩
    obtain ⟨rfl, y⟩ := last x
    exact y

/-- sorted(a set of numbers) -/
theorem sorted_set (hh : A.handled = none) {a : Addr} {ks : List Int} {Q : Value → Shared → Prop} (hS : SetAt prog w s.heap a ks (wled w)) (hks : ks.length ≤ sizeLine)
    (h : ∀ (ns : List Int) (out : List Value) (h1 h2 : Heap) (d : Drawn) (tk c : Nat), ns.Perm ks → ns.Pairwise (· ≤ ·) → IntsAre out ns → (∀ b o, s.heap.get? b = some o → h1.get? b = some o) → (∀ b o, h1.get? b = some o → h2.get? b = some o) →
      h2.get? h1.objs.size = some { cls := .type "list", data := .seq out.toArray c } → Q (.ref h1.objs.size) { s with heap := h2, drawn := d, toks := tk }) :
    wpAny (model prog w) A (call (.builtin "sorted") [.ref a]) Q E s := by
  refine Calls.call_function_entry kind_sorted plain_sorted entry_sorted (args_sorted1 _) ?_
  unfold Builtin.«sorted»
  refine wpAny_bind (m := checkCount "sorted" 1 1 _) (wpAny_pure ?_)
  refine wpAny_bind (collect_set (A := A.in1) (by simp [hh]) hS hks fun ord h1 d tk g1 g2 g3 => ?_)
  have hlen : ord.length = ks.length := by
    have := g1.length_eq
    rw [List.length_map] at this
    exact this
  refine wpAny_bind (wpAny_newList ?_ (by rw [hlen]; exact hks))
  have hi : IntsAre ord (ord.map iv) := by
    clear hlen g1
    induction ord with
    | nil => exact .nil
    | cons v r ih =>
      obtain ⟨k, t, rfl⟩ := g2 v (by simp)
      exact .cons k t (ih fun u hu => g2 u (by simp [hu]))
  have hoL : (h1.push (seqObj "list" ord.toArray 0)).get? h1.objs.size = some (seqObj "list" ord.toArray 0) := Heap.get?_push_size _ rfl
  refine wpAny_bind (wpAny_holding (wpAny_call_entry slot_list_sort ⟨_, hoL, rfl⟩ entry_list_sort (list_sort_treeAny hoL hi (by rw [hlen]; exact hks) fun out ns a1 a2 a3 => ⟨_, rfl, ?_⟩) (args_list_sort _)))
  obtain ⟨c, hc⟩ := sortedHeap_at (vs := ord) (out := out) hoL
  refine wpAny_pure ⟨_, rfl, h ns out.toList h1 _ d tk c (a2.trans g1) a3 a1 g3 (fun b o q => ?_) (by simpa using hc)⟩
  have hb : b < h1.objs.size := Heap.lt_size q
  rw [sortedHeap_old (Nat.ne_of_lt hb) (by rw [size_push']; exact Nat.lt_succ_of_lt hb)]
  exact Heap.get?_push_of_some _ q
end
end LS
end

section
set_option Elab.async false
set_option linter.all false
set_option maxRecDepth 100000
set_option Elab.async false
set_option maxRecDepth 100000
namespace LS
open PySem PySem.Spec PyProof.Rows L2

/-- a set of numbers, as a thing of the abstract heap -/
def SetO (prog : Program) (w : World) (p : Addr) (ks : List Int) : HO := .ext fun h => SetAt prog w h p ks (wled w)
theorem SetO.ok {prog : Program} {w : World} {H : Hp} {h : Heap} {p : Addr} {ks : List Int} (x : SetAt prog w h p ks (wled w)) : ObjOk prog w H h p (SetO prog w p ks) :=
  ⟨x, (by obtain ⟨o, _, _, _, ho, _⟩ := x; exact ⟨o, ho⟩), fun _ _ y k => y.at k⟩
theorem SetO.of {prog : Program} {w : World} {H : Hp} {h : Heap} {p : Addr} {ks : List Int} (x : ObjOk prog w H h p (SetO prog w p ks)) : SetAt prog w h p ks (wled w) := x.1

theorem inv_drawn {X : Cx} {pins : List (Addr × Obj)} {σ : L2.St} {H : Hp} {s : Shared} (I : Inv X pins σ H s) (d : Drawn) : Inv X pins σ H { s with drawn := d } :=
  ⟨I.ok, I.os, I.bare, I.base, I.loc, I.cell, I.free, I.freeC, I.pin, I.hok, I.len⟩

section
variable {X : Cx}
/-- set(xs) of a list of numbers -/
def rSetOf (X : Cx) : List V → Hp → VK → Prop := fun vs H Q => ∃ (a : Addr) (ns : List Int), vs = [V.ref a] ∧ SqL X.K H a (ns.map V.int) ∧ (ded ns).length + 1 < scanBound ∧
  ∀ p : Addr, H p = none → Q (.ref p) (upd H p (SetO X.prog X.w p (ded ns)))
theorem cr_set (hc : X.calm = true) : CallR X (.type "set") (rSetOf X) := by
  intro pins s σ H vs us Q I r h
  obtain ⟨a, ns, rfl, hs, hb, q⟩ := h
  obtain ⟨its, rv, hl, _⟩ := I.list hs
  rw [Vals.ref1 r]
  refine set_of_list (I.ok.hd hc) hl.isList (by simpa using rv.ints) hb fun h' tk hS k => ?_
  exact ⟨.ref s.heap.objs.size, _, I.laid (t' := tk) k (Nat.le_refl _) (SetO.ok hS), rfl, q _ (I.hok.fresh (Nat.le_refl _))⟩
/-- sorted of such a set -/
def rSortedSet (X : Cx) : List V → Hp → VK → Prop := fun vs H Q => ∃ (a : Addr) (ks : List Int), vs = [V.ref a] ∧ H a = some (SetO X.prog X.w a ks) ∧ ks.length ≤ sizeLine ∧
  ∀ (ns : List Int) (p : Addr), ns.Perm ks → ns.Pairwise (· ≤ ·) → H p = none → Q (.ref p) (upd H p (.lst (ns.map V.int)))
theorem cr_sortedSet (hc : X.calm = true) : CallR X (.builtin "sorted") (rSortedSet X) := by
  intro pins s σ H vs us Q I r h
  obtain ⟨a, ks, rfl, hs, hk, q⟩ := h
  rw [Vals.ref1 r]
  refine sorted_set (I.ok.hd hc) (SetO.of (I.hok _ _ hs)) hk fun ns out h1 h2 d tk c g1 g2 g3 k1 k2 e => ?_
  have I1 : Inv X pins σ H { s with heap := h1, drawn := d } := inv_drawn (I.kept (t' := s.toks) k1) d
  have hlen : (ns.map V.int).length ≤ sizeLine := by rw [List.length_map, g1.length_eq]; exact hk
  exact ⟨.ref _, upd H h1.objs.size (.lst (ns.map V.int)), I1.laid (t' := tk) k2 (Nat.le_refl _) ⟨hlen, out, c, vals_of_ints g3, e⟩, rfl, q ns _ g1 g2 (I1.hok.fresh (Nat.le_refl _))⟩
end
end LS
end

section
set_option Elab.async false
set_option linter.all false
set_option maxRecDepth 100000
set_option Elab.async false
/-! The specification's cell, as the program keeps it: who turned, what a visit leaves, rounds, who has been. -/
namespace LM
open Ux07

/-- whether p, called now, turns the lamp -/
def wt (r : Rule) (x : Now) (p : Nat) : Bool := if p = 1 then x.lamp else (!x.lamp && decide (x.turns.getD (p - 1) 0 < r.t))
/-- the turns behind one more of p's -/
def up (l : List Nat) (p : Nat) : List Nat := l.set (p - 1) (l.getD (p - 1) 0 + 1)

theorem called_no {r : Rule} {x : Now} {p : Nat} (h : wt r x p = false) : called r x p = x := by
  unfold wt at h
  unfold called
  by_cases hp : p = 1
  · rw [if_pos hp] at h ⊢
    rw [if_neg (by rw [h]; exact Bool.false_ne_true)]
  · rw [if_neg hp] at h ⊢
    rw [if_neg ?_]
    rintro ⟨h1, h2⟩
    rw [h1, decide_eq_true h2] at h
    cases h
theorem called_lamp {r : Rule} {x : Now} {p : Nat} (h : wt r x p = true) : (called r x p).lamp = !x.lamp := by
  unfold wt at h
  unfold called
  by_cases hp : p = 1
  · rw [if_pos hp] at h ⊢
    rw [if_pos h]
    rfl
  · rw [if_neg hp] at h ⊢
    rw [Bool.and_eq_true, Bool.not_eq_true', decide_eq_true_eq] at h
    rw [if_pos h]
    rfl
theorem called_turns {r : Rule} {x : Now} {p : Nat} (h : wt r x p = true) : (called r x p).turns = up x.turns p := by
  unfold wt at h
  unfold called
  by_cases hp : p = 1
  · rw [if_pos hp] at h ⊢
    rw [if_pos h]
    subst hp
    rfl
  · rw [if_neg hp] at h ⊢
    rw [Bool.and_eq_true, Bool.not_eq_true', decide_eq_true_eq] at h
    rw [if_pos h]
    rfl
theorem called_count {r : Rule} {x : Now} {p : Nat} : (called r x p).count = x.count + (if p = 1 ∧ x.lamp = true then 1 else 0) := by
  unfold called
  by_cases hp : p = 1
  · rw [if_pos hp]
    by_cases hl : x.lamp = true
    · rw [if_pos hl, if_pos ⟨hp, hl⟩]
    · rw [if_neg hl, if_neg fun z => hl z.2]
      rfl
  · have e : (if p = 1 ∧ x.lamp = true then 1 else 0) = 0 := if_neg fun z => hp z.1
    rw [if_neg hp, e]
    split <;> rfl
theorem up_len (l : List Nat) (p : Nat) : (up l p).length = l.length := List.length_set

/-- n people, and the counter's turns are what was counted -/
structure Fit (n : Nat) (x : Now) : Prop where
  len : x.turns.length = n
  cnt : x.turns.getD 0 0 = x.count
theorem Fit.first (r : Rule) : Fit r.n (first r) := by
  refine ⟨List.length_replicate, ?_⟩
  show (List.replicate r.n 0).getD 0 0 = 0
  cases r.n <;> rfl
theorem Fit.called {r : Rule} {x : Now} (h : Fit r.n x) (hn : 0 < r.n) {p : Nat} (h1 : 1 ≤ p) (h2 : p ≤ r.n) : Fit r.n (called r x p) := by
  cases hw : wt r x p with
  | false => rw [called_no hw]; exact h
  | true =>
    refine ⟨by rw [called_turns hw, up_len]; exact h.len, ?_⟩
    rw [called_turns hw, called_count]
    have hl := h.len
    have hc := h.cnt
    by_cases hp : p = 1
    · have hlamp : x.lamp = true := by
        unfold wt at hw
        rw [if_pos hp] at hw
        exact hw
      rw [if_pos ⟨hp, hlamp⟩]
      subst hp
      unfold up
      rw [List.getD_eq_getElem?_getD, List.getElem?_set_self (by omega)]
      show x.turns.getD 0 0 + 1 = _
      rw [hc]
    · rw [if_neg fun z => hp z.1]
      unfold up
      rw [List.getD_eq_getElem?_getD, List.getElem?_set_ne (by omega), ← List.getD_eq_getElem?_getD, hc]
      rfl

/-- what the program keeps of the calls: who, and whether they turned -/
def vis (r : Rule) : Now → List Nat → List (Nat × Bool)
  | _, [] => []
  | x, p :: l => (p, wt r x p) :: vis r (called r x p) l
theorem vis_snoc (r : Rule) : ∀ (x : Now) (l : List Nat) (p : Nat), vis r x (l ++ [p]) = vis r x l ++ [(p, wt r (l.foldl (called r) x) p)]
  | _, [], _ => rfl
  | x, q :: l, p => by
    show (q, wt r x q) :: vis r (called r x q) (l ++ [p]) = _
    rw [vis_snoc r (called r x q) l p]
    rfl
theorem vis_fst (r : Rule) : ∀ (x : Now) (l : List Nat), (vis r x l).map (·.1) = l
  | _, [] => rfl
  | x, q :: l => by
    show q :: (vis r (called r x q) l).map (·.1) = _
    rw [vis_fst r]
theorem vis_len (r : Rule) (x : Now) (l : List Nat) : (vis r x l).length = l.length := by
  have := congrArg List.length (vis_fst r x l)
  rwa [List.length_map] at this
theorem behind_snoc (r : Rule) (l : List Nat) (p : Nat) : behind r (l ++ [p]) = called r (behind r l) p := by
  unfold behind
  rw [List.foldl_append]
  rfl

/-- the cell as the program may keep it -/
structure WF (s : St) : Prop where
  n2 : 2 ≤ s.rule.n
  n20 : s.rule.n ≤ 20
  t1 : 1 ≤ s.rule.t
  t20 : s.rule.t ≤ 20
  c1 : 1 ≤ s.rule.c
  c400 : s.rule.c ≤ 400
  ps : ∀ p ∈ s.calls, 1 ≤ p ∧ p ≤ s.rule.n
  cnt : (now s).count ≤ s.rule.c
theorem fit_fold {r : Rule} (hn : 0 < r.n) : ∀ (l : List Nat) (x : Now), Fit r.n x → (∀ p ∈ l, 1 ≤ p ∧ p ≤ r.n) → Fit r.n (l.foldl (called r) x)
  | [], _, h, _ => h
  | p :: l, x, h, hp => fit_fold hn l _ (h.called hn (hp p (by simp)).1 (hp p (by simp)).2) fun q hq => hp q (by simp [hq])
theorem WF.fit {s : St} (h : WF s) : Fit s.rule.n (now s) := fit_fold (by have := h.n2; omega) s.calls _ (Fit.first _) h.ps
theorem WF.over_iff {s : St} (h : WF s) : over s = decide ((now s).count = s.rule.c) := by
  unfold over said
  have := h.cnt
  exact decide_eq_decide.mpr ⟨fun z => by omega, fun z => by omega⟩
theorem WF.visit {s : St} (h : WF s) (ho : over s = false) {p : Nat} (h1 : 1 ≤ p) (h2 : p ≤ s.rule.n) : WF { s with calls := s.calls ++ [p] } := by
  refine ⟨h.n2, h.n20, h.t1, h.t20, h.c1, h.c400, fun q hq => ?_, ?_⟩
  · rcases List.mem_append.mp hq with z | z
    · exact h.ps q z
    · rw [List.mem_singleton] at z
      subst z
      exact ⟨h1, h2⟩
  · show (behind s.rule (s.calls ++ [p])).count ≤ s.rule.c
    rw [behind_snoc, called_count]
    rw [h.over_iff] at ho
    have := of_decide_eq_false ho
    have h3 := h.cnt
    have h4 : (behind s.rule s.calls).count = (now s).count := rfl
    split <;> omega
theorem count_mono (r : Rule) : ∀ (l : List Nat) (x : Now), x.count ≤ (l.foldl (called r) x).count
  | [], _ => Nat.le_refl _
  | p :: l, x => by
    refine Nat.le_trans ?_ (count_mono r l (called r x p))
    rw [called_count]
    omega
theorem WF.back {r : Rule} {l : List Nat} {p : Nat} (h : WF ⟨r, l ++ [p]⟩) : WF ⟨r, l⟩ := by
  refine ⟨h.n2, h.n20, h.t1, h.t20, h.c1, h.c400, fun q hq => h.ps q (List.mem_append_left _ hq), ?_⟩
  have := h.cnt
  have e : (now ⟨r, l ++ [p]⟩).count = (called r (now ⟨r, l⟩) p).count := congrArg Now.count (behind_snoc r l p)
  rw [e, called_count] at this
  exact Nat.le_trans (Nat.le_add_right _ _) this
theorem WF.new {n t c : Nat} {k l : Bool} (h : ¬ (n < 2 ∨ 20 < n ∨ t < 1 ∨ 20 < t ∨ c < 1 ∨ 400 < c)) : WF ⟨⟨n, t, c, k, l⟩, []⟩ := by
  refine ⟨?_, ?_, ?_, ?_, ?_, ?_, fun p hp => by simp at hp, Nat.zero_le _⟩ <;> show _ ≤ _ <;> simp only [] <;> omega

/-- undone: what stood ahead of the last visit -/
theorem undo_turns {l : List Nat} {p : Nat} (hp : 1 ≤ p) (h : p ≤ l.length) : (up l p).set (p - 1) ((up l p).getD (p - 1) 0 - 1) = l := by
  have e : (up l p).getD (p - 1) 0 = l.getD (p - 1) 0 + 1 := by
    unfold up
    rw [List.getD_eq_getElem?_getD (l := l.set _ _), List.getElem?_set_self (by omega)]
    rfl
  rw [e]
  unfold up
  rw [List.set_set, Nat.add_sub_cancel]
  have h1 : p - 1 < l.length := by omega
  rw [List.getD_eq_getElem?_getD, List.getElem?_eq_getElem h1]
  exact List.set_getElem_self h1

/-! rounds -/
theorem people_at {n i : Nat} (h : i < n) : (people n)[i]? = some (i + 1) := by
  unfold people
  rw [List.getElem?_map, List.getElem?_range h]
  rfl
theorem people_len (n : Nat) : (people n).length = n := by
  unfold people
  rw [List.length_map, List.length_range]
theorem round_succ (r : Rule) (k : Nat) : Ux07.round r (k + 1) = people r.n ++ Ux07.round r k := by
  unfold Ux07.round
  rw [List.replicate_succ, List.flatten_cons]
theorem round_len (r : Rule) : ∀ k, (Ux07.round r k).length = k * r.n
  | 0 => by
    unfold Ux07.round
    simp
  | k + 1 => by
    rw [round_succ, List.length_append, people_len, round_len r k, Nat.succ_mul]
    omega
theorem round_at (r : Rule) : ∀ (k i : Nat), i < k * r.n → (Ux07.round r k)[i]? = some (i % r.n + 1)
  | 0, i, h => by omega
  | k + 1, i, h => by
    rw [round_succ]
    by_cases hi : i < r.n
    · rw [List.getElem?_append_left (by rw [people_len]; exact hi), people_at hi, Nat.mod_eq_of_lt hi]
    · have h2 : (k + 1) * r.n = k * r.n + r.n := Nat.succ_mul _ _
      rw [List.getElem?_append_right (by rw [people_len]; omega), people_len, round_at r k (i - r.n) (by omega)]
      have h3 : i % r.n = (i - r.n) % r.n := Nat.mod_eq_sub_mod (by omega)
      rw [h3]
theorem callsOf_said {r : Rule} {x : Now} (h : said r x = true) (l : List Nat) : callsOf r x l = [] := by
  cases l with
  | nil => rfl
  | cons p l =>
    unfold callsOf
    rw [if_pos h]
theorem callsOf_go {r : Rule} {x : Now} {p : Nat} (h : said r x = false) (l : List Nat) : callsOf r x (p :: l) = p :: callsOf r (called r x p) l := by
  show (if said r x = true then [] else p :: callsOf r (called r x p) l) = _
  rw [if_neg (by rw [h]; exact Bool.false_ne_true)]

/-! who has been -/
theorem same_sorted : ∀ {l m : List Int}, l.Perm m → l.Pairwise (· < ·) → m.Pairwise (· ≤ ·) → l = m
  | [], m, p, _, _ => (List.nil_perm.mp p).symm
  | a :: l, [], p, _, _ => by have := p.length_eq; simp at this
  | a :: l, b :: m, p, h1, h2 => by
    have ha : a ∈ b :: m := p.mem_iff.mp (by simp)
    have hb : b ∈ a :: l := p.mem_iff.mpr (by simp)
    have q1 := List.pairwise_cons.mp h1
    have q2 := List.pairwise_cons.mp h2
    have e : a = b := by
      rcases List.mem_cons.mp ha with z | z
      · exact z
      · rcases List.mem_cons.mp hb with y | y
        · exact y.symm
        · have u1 := q2.1 a z
          have u2 := q1.1 b y
          omega
    subst e
    rw [same_sorted (List.Perm.cons_inv p) q1.2 q2.2]
theorem been_sorted (n : Nat) (f : Nat → Bool) : (((people n).filter f).map fun (k : Nat) => (k : Int)).Pairwise (· < ·) := by
  rw [List.pairwise_map]
  refine List.Pairwise.filter _ ?_
  unfold people
  rw [List.pairwise_map]
  exact List.pairwise_lt_range.imp fun h => by omega
theorem mem_people {n p : Nat} : p ∈ people n ↔ 1 ≤ p ∧ p ≤ n := by
  unfold people
  rw [List.mem_map]
  constructor
  · rintro ⟨i, hi, rfl⟩
    have := List.mem_range.mp hi
    omega
  · rintro ⟨h1, h2⟩
    exact ⟨p - 1, List.mem_range.mpr (by omega), by omega⟩
end LM
end

section
set_option Elab.async false
set_option linter.all false
set_option maxRecDepth 100000
set_option Elab.async false
/-! The list of calls, read call by call. -/
namespace LM
open Ux07

/-- one call of the list, in the specification's words -/
def stp (s : St) (c : List Int) : St × List Int := Ux07Neutral.step s c
def stw (s : St) (c : List (List Int)) : St × List Int := Ux07Neutral.step s (c.headD [])
/-- what is due for the rest, from a state -/
def due (s : St) (cs : List (List (List Int))) : List Int := PyFlat.told (PyFlat.played stw s (cs.map PyUx07.whole))

theorem shape_cases {p : Int} {n k : Nat} (h : PyUx07.shape p = some (n, k)) : k = 0 ∧ 0 ≤ p ∧ ((p = 0 ∧ n = 5) ∨ ((p = 1 ∨ p = 2 ∨ p = 6) ∧ n = 1) ∨ ((p = 3 ∨ p = 4 ∨ p = 5 ∨ p = 7 ∨ p = 8 ∨ p = 9 ∨ p = 10 ∨ p = 11 ∨ p = 12) ∧ n = 0)) := by
  by_cases h0 : p = 0
  · subst h0
    have e : some (5, 0) = some (n, k) := h
    cases e
    refine ⟨rfl, by decide, ?_⟩
    simp
  by_cases h1 : p = 1
  · subst h1
    have e : some (1, 0) = some (n, k) := h
    cases e
    refine ⟨rfl, by decide, ?_⟩
    simp
  by_cases h2 : p = 2
  · subst h2
    have e : some (1, 0) = some (n, k) := h
    cases e
    refine ⟨rfl, by decide, ?_⟩
    simp
  by_cases h3 : p = 3
  · subst h3
    have e : some (0, 0) = some (n, k) := h
    cases e
    refine ⟨rfl, by decide, ?_⟩
    simp
  by_cases h4 : p = 4
  · subst h4
    have e : some (0, 0) = some (n, k) := h
    cases e
    refine ⟨rfl, by decide, ?_⟩
    simp
  by_cases h5 : p = 5
  · subst h5
    have e : some (0, 0) = some (n, k) := h
    cases e
    refine ⟨rfl, by decide, ?_⟩
    simp
  by_cases h6 : p = 6
  · subst h6
    have e : some (1, 0) = some (n, k) := h
    cases e
    refine ⟨rfl, by decide, ?_⟩
    simp
  by_cases h7 : p = 7
  · subst h7
    have e : some (0, 0) = some (n, k) := h
    cases e
    refine ⟨rfl, by decide, ?_⟩
    simp
  by_cases h8 : p = 8
  · subst h8
    have e : some (0, 0) = some (n, k) := h
    cases e
    refine ⟨rfl, by decide, ?_⟩
    simp
  by_cases h9 : p = 9
  · subst h9
    have e : some (0, 0) = some (n, k) := h
    cases e
    refine ⟨rfl, by decide, ?_⟩
    simp
  by_cases h10 : p = 10
  · subst h10
    have e : some (0, 0) = some (n, k) := h
    cases e
    refine ⟨rfl, by decide, ?_⟩
    simp
  by_cases h11 : p = 11
  · subst h11
    have e : some (0, 0) = some (n, k) := h
    cases e
    refine ⟨rfl, by decide, ?_⟩
    simp
  by_cases h12 : p = 12
  · subst h12
    have e : some (0, 0) = some (n, k) := h
    cases e
    refine ⟨rfl, by decide, ?_⟩
    simp
  unfold PyUx07.shape at h
  rw [if_neg h0, if_neg h1, if_neg h2, if_neg h3, if_neg h4, if_neg h5, if_neg h6, if_neg h7, if_neg h8, if_neg h9, if_neg h10, if_neg h11, if_neg h12] at h
  cases h

/-- the first call of a list that can be read -/
theorem next_call {f : Nat} {p : Int} {r : List Int} {cs : List (List (List Int))} (h : PyFlat.calls PyUx07.shape f (p :: r) = some cs) :
    ∃ n f' cs', PyUx07.shape p = some (n, 0) ∧ n ≤ r.length ∧ PyFlat.calls PyUx07.shape f' (r.drop n) = some cs' ∧ cs = [p :: r.take n] :: cs' := by
  cases f with
  | zero => cases h
  | succ f =>
    have h1 : (match PyFlat.call PyUx07.shape (p :: r) with
      | none => none
      | some (c, t) => match PyFlat.calls PyUx07.shape f t with
        | none => none
        | some cs => some (c :: cs)) = some cs := h
    have hc : PyFlat.call PyUx07.shape (p :: r) = match PyUx07.shape p with
      | none => none
      | some (n, k) => if r.length < n then none else match PyFlat.rows k (r.drop n) with
        | none => none
        | some (xs, t) => some ((p :: r.take n) :: xs, t) := rfl
    cases hs : PyUx07.shape p with
    | none =>
      rw [hs] at hc
      rw [hc] at h1
      cases h1
    | some q =>
      obtain ⟨n, k⟩ := q
      obtain ⟨rfl, _, _⟩ := shape_cases hs
      rw [hs] at hc
      dsimp only at hc
      by_cases hl : r.length < n
      · rw [if_pos hl] at hc
        rw [hc] at h1
        cases h1
      · rw [if_neg hl] at hc
        have hc2 : PyFlat.call PyUx07.shape (p :: r) = some ([p :: r.take n], r.drop n) := hc
        rw [hc2] at h1
        dsimp only at h1
        cases h2 : PyFlat.calls PyUx07.shape f (r.drop n) with
        | none =>
          rw [h2] at h1
          cases h1
        | some cs' =>
          rw [h2] at h1
          exact ⟨n, f, cs', rfl, by omega, h2, (Option.some.inj h1).symm⟩
theorem no_calls {f : Nat} {cs : List (List (List Int))} (h : PyFlat.calls PyUx07.shape f [] = some cs) : cs = [] := by
  cases f <;> exact (Option.some.inj h).symm

theorem whole_is {p : Int} {as : List Int} (h : PyUx07.shape p = some (as.length, 0)) : PyUx07.whole [p :: as] = [p :: as] := by
  obtain ⟨_, _, z⟩ := shape_cases h
  rcases z with ⟨rfl, e⟩ | ⟨y, e⟩ | ⟨y, e⟩
  · match as, e with
    | [_, _, _, _, _], _ => rfl
  · match as, e with
    | [_], _ => rcases y with rfl | rfl | rfl <;> rfl
  · match as, e with
    | [], _ => rcases y with rfl | rfl | rfl | rfl | rfl | rfl | rfl | rfl | rfl <;> rfl

theorem due_cons {s : St} {p : Int} {as : List Int} {cs : List (List (List Int))} (h : PyUx07.shape p = some (as.length, 0)) :
    due s ([p :: as] :: cs) = ((stp s (p :: as)).2.length : Int) :: ((stp s (p :: as)).2 ++ due (stp s (p :: as)).1 cs) := by
  unfold due
  rw [List.map_cons, whole_is h]
  rfl
theorem due_nil (s : St) : due s [] = [] := rfl
theorem answers_due {l : List Int} {raw : List (List (List Int))} (h : PyFlat.calls PyUx07.shape l.length l = some raw) : PyUx07.answers l = due init raw := by
  unfold PyUx07.answers PyUx07.calls
  rw [h]
  rfl
theorem asked_raw {l : List Int} (h : PyUx07.answers_asked l = true) : ∃ raw, PyFlat.calls PyUx07.shape l.length l = some raw := by
  unfold PyUx07.answers_asked at h
  cases e : PyFlat.calls PyUx07.shape l.length l with
  | none =>
    rw [e] at h
    cases h
  | some raw => exact ⟨raw, rfl⟩

/-! each call's step -/
def inn (z : Int) : Prop := 0 ≤ z ∧ z ≤ 4294967295
theorem nat_in {z : Int} (h : inn z) : Ux07Neutral.nat z = true := by
  unfold Ux07Neutral.nat
  have h1 : (0 : Int) ≤ z := h.1
  have h2 : z < 2 ^ 32 := by have := h.2; omega
  rw [decide_eq_true h1, decide_eq_true h2]
  rfl
theorem stp_of {s : St} {c : List Int} {x : Call} (h1 : c.all Ux07Neutral.nat = true) (h2 : Ux07Neutral.callIn (c.map Int.toNat) = some x) : stp s c = Ux07.step s x := by
  have e : Ux07Neutral.callOf c = some x := by
    unfold Ux07Neutral.callOf
    rw [h1, if_neg (by decide)]
    exact h2
  unfold stp Ux07Neutral.step
  rw [e]
  rfl
theorem stp0 {s : St} {a b c d e : Int} (ha : inn a) (hb : inn b) (hc : inn c) (hd : inn d) (he : inn e) : stp s [0, a, b, c, d, e] = Ux07.step s (.cell a.toNat b.toNat c.toNat d.toNat e.toNat) :=
  stp_of (by simp [nat_in ha, nat_in hb, nat_in hc, nat_in hd, nat_in he]; decide) rfl
theorem stp1 {s : St} {a : Int} (ha : inn a) : stp s [1, a] = Ux07.step s (.call a.toNat) := stp_of (by simp [nat_in ha]; decide) rfl
theorem stp2 {s : St} {a : Int} (ha : inn a) : stp s [2, a] = Ux07.step s (.rounds a.toNat) := stp_of (by simp [nat_in ha]; decide) rfl
theorem stp3 {s : St} : stp s [3] = Ux07.step s .back := rfl
theorem stp4 {s : St} : stp s [4] = Ux07.step s .shows := rfl
theorem stp5 {s : St} : stp s [5] = Ux07.step s .been := rfl
theorem stp6 {s : St} {a : Int} (ha : inn a) : stp s [6, a] = Ux07.step s (.turned a.toNat) := stp_of (by simp [nat_in ha]; decide) rfl
theorem stp7 {s : St} : stp s [7] = Ux07.step s .right := rfl
theorem stp8 {s : St} : stp s [8] = Ux07.step s .sure := rfl
theorem stp9 {s : St} : stp s [9] = Ux07.step s .comes := rfl
theorem stp10 {s : St} : stp s [10] = Ux07.step s .numbers := rfl
theorem stp11 {s : St} : stp s [11] = Ux07.step s .wrong := rfl
theorem stp12 {s : St} : stp s [12] = Ux07.step s .soon := rfl

theorem wf_init : WF init := ⟨by decide, by decide, by decide, by decide, by decide, by decide, fun p hp => by simp [init] at hp, by decide⟩
end LM
end

section
set_option Elab.async false
set_option linter.all false
set_option maxRecDepth 100000
set_option Elab.async false
/-! What one call of the list does to the specification's cell: it stays well formed, and grows by 2000 calls at the most. -/
namespace LM
open Ux07
theorem callsOf_mem (r : Rule) : ∀ (l : List Nat) (x : Now) (p : Nat), p ∈ callsOf r x l → p ∈ l
  | [], x, p, h => h
  | q :: l, x, p, h => by
    cases e : said r x with
    | true =>
      rw [callsOf_said e] at h
      simp at h
    | false =>
      rw [callsOf_go e] at h
      rcases List.mem_cons.mp h with rfl | z
      · exact List.mem_cons_self
      · exact List.mem_cons_of_mem _ (callsOf_mem r l _ p z)
theorem callsOf_cnt (r : Rule) : ∀ (l : List Nat) (x : Now), x.count ≤ r.c → ((callsOf r x l).foldl (called r) x).count ≤ r.c
  | [], x, h => h
  | q :: l, x, h => by
    cases e : said r x with
    | true =>
      rw [callsOf_said e]
      exact h
    | false =>
      rw [callsOf_go e, List.foldl_cons]
      refine callsOf_cnt r l _ ?_
      rw [called_count]
      have z := of_decide_eq_false (show decide (r.c ≤ x.count) = false from e)
      split <;> omega
theorem callsOf_len (r : Rule) : ∀ (l : List Nat) (x : Now), (callsOf r x l).length ≤ l.length
  | [], x => Nat.le_refl _
  | q :: l, x => by
    cases e : said r x with
    | true =>
      rw [callsOf_said e]
      exact Nat.zero_le _
    | false =>
      rw [callsOf_go e]
      exact Nat.succ_le_succ (callsOf_len r l _)
theorem round_mem (r : Rule) (k : Nat) {p : Nat} (h : p ∈ Ux07.round r k) : 1 ≤ p ∧ p ≤ r.n := by
  unfold Ux07.round at h
  obtain ⟨l, hl, hp⟩ := List.mem_flatten.mp h
  rw [(List.mem_replicate.mp hl).2] at hp
  exact mem_people.mp hp
theorem WF.more {s : St} (w : WF s) (k : Nat) : WF { s with calls := s.calls ++ callsOf s.rule (now s) (Ux07.round s.rule k) } := by
  refine ⟨w.n2, w.n20, w.t1, w.t20, w.c1, w.c400, fun p hp => ?_, ?_⟩
  · rcases List.mem_append.mp hp with z | z
    · exact w.ps p z
    · exact round_mem s.rule k (callsOf_mem _ _ _ _ z)
  · show ((s.calls ++ callsOf s.rule (now s) (Ux07.round s.rule k)).foldl (called s.rule) (first s.rule)).count ≤ s.rule.c
    rw [List.foldl_append]
    exact callsOf_cnt s.rule _ _ w.cnt
/-- a step keeps the cell well formed, and makes at most 2000 calls -/
theorem step_wf {s : St} (w : WF s) (x : Call) : WF (Ux07.step s x).1 ∧ (Ux07.step s x).1.calls.length ≤ s.calls.length + 2000 := by
  have same : WF s ∧ s.calls.length ≤ s.calls.length + 2000 := ⟨w, Nat.le_add_right _ _⟩
  cases x with
  | cell n t c k l =>
    show WF (if n < 2 ∨ 20 < n ∨ t < 1 ∨ 20 < t ∨ c < 1 ∨ 400 < c ∨ 1 < k ∨ 1 < l ∨ (k = 1 ∧ l = 1) then (s, ([-1] : List Int)) else (⟨⟨n, t, c, k == 1, l == 1⟩, []⟩, [0])).1 ∧
      (if n < 2 ∨ 20 < n ∨ t < 1 ∨ 20 < t ∨ c < 1 ∨ 400 < c ∨ 1 < k ∨ 1 < l ∨ (k = 1 ∧ l = 1) then (s, ([-1] : List Int)) else (⟨⟨n, t, c, k == 1, l == 1⟩, []⟩, [0])).1.calls.length ≤ _
    split
    · exact same
    · rename_i h
      exact ⟨WF.new (by omega), Nat.zero_le _⟩
  | call p =>
    show WF (if p < 1 ∨ s.rule.n < p then (s, ([-2] : List Int)) else if over s = true then (s, [-9]) else ({ s with calls := s.calls ++ [p] }, Ux07.ints [flag (now { s with calls := s.calls ++ [p] }).lamp, (now { s with calls := s.calls ++ [p] }).count])).1 ∧
      (if p < 1 ∨ s.rule.n < p then (s, ([-2] : List Int)) else if over s = true then (s, [-9]) else ({ s with calls := s.calls ++ [p] }, Ux07.ints [flag (now { s with calls := s.calls ++ [p] }).lamp, (now { s with calls := s.calls ++ [p] }).count])).1.calls.length ≤ _
    split
    · exact same
    · rename_i h
      split
      · exact same
      · rename_i h2
        refine ⟨w.visit (by simpa using h2) (by omega) (by omega), ?_⟩
        show (s.calls ++ [p]).length ≤ _
        rw [List.length_append]
        show s.calls.length + 1 ≤ _
        omega
  | rounds k =>
    show WF (if 100 < k then (s, ([-1] : List Int)) else if over s = true then (s, [-9]) else ({ s with calls := s.calls ++ callsOf s.rule (now s) (Ux07.round s.rule k) }, Ux07.ints [(callsOf s.rule (now s) (Ux07.round s.rule k)).length, flag (over { s with calls := s.calls ++ callsOf s.rule (now s) (Ux07.round s.rule k) })])).1 ∧
      (if 100 < k then (s, ([-1] : List Int)) else if over s = true then (s, [-9]) else ({ s with calls := s.calls ++ callsOf s.rule (now s) (Ux07.round s.rule k) }, Ux07.ints [(callsOf s.rule (now s) (Ux07.round s.rule k)).length, flag (over { s with calls := s.calls ++ callsOf s.rule (now s) (Ux07.round s.rule k) })])).1.calls.length ≤ _
    split
    · exact same
    · rename_i h
      split
      · exact same
      · refine ⟨w.more k, ?_⟩
        show (s.calls ++ callsOf s.rule (now s) (Ux07.round s.rule k)).length ≤ _
        rw [List.length_append]
        have h1 := callsOf_len s.rule (Ux07.round s.rule k) (now s)
        rw [round_len] at h1
        have h2 : k * s.rule.n ≤ 2000 := Nat.le_trans (Nat.mul_le_mul (by omega : k ≤ 100) w.n20) (by decide)
        omega
  | back =>
    obtain ⟨r, l⟩ := s
    by_cases hn : l = []
    · subst hn
      exact same
    · obtain ⟨l', q, hl⟩ : ∃ l' q, l = l' ++ [q] := ⟨l.dropLast, l.getLast hn, (List.dropLast_concat_getLast hn).symm⟩
      subst hl
      have e : (Ux07.step ⟨r, l' ++ [q]⟩ .back).1 = ⟨r, l'⟩ := by
        show (match (l' ++ [q]).getLast? with
          | none => ((⟨r, l' ++ [q]⟩ : St), ([-7] : List Int))
          | some p => (⟨r, (l' ++ [q]).dropLast⟩, Ux07.ints [p])).1 = _
        rw [List.getLast?_concat, List.dropLast_concat]
      rw [e]
      refine ⟨w.back, ?_⟩
      show l'.length ≤ (l' ++ [q]).length + 2000
      rw [List.length_append]
      omega
  | shows => exact same
  | been => exact same
  | turned p => exact same
  | right => exact same
  | sure => exact same
  | comes => exact same
  | numbers => exact same
  | wrong => exact same
  | soon => exact same
theorem stp_wf {s : St} (w : WF s) (c : List Int) : WF (stp s c).1 ∧ (stp s c).1.calls.length ≤ s.calls.length + 2000 := by
  unfold stp Ux07Neutral.step
  cases e : Ux07Neutral.callOf c with
  | none => exact ⟨w, Nat.le_add_right _ _⟩
  | some x => exact step_wf w x
end LM
end

section
set_option Elab.async false
set_option linter.all false
set_option maxRecDepth 100000
set_option Elab.async false
/-! The asked calls in closed form: numbers, right, soon. -/
namespace LM
open Ux07
theorem range_above (a : Nat) : ∀ m, (List.range m).filter (fun c => decide (a < c)) = List.range' (a + 1) (m - (a + 1))
  | 0 => by simp
  | m + 1 => by
    rw [List.range_succ, List.filter_append, range_above a m]
    by_cases h : a < m
    · have e : m + 1 - (a + 1) = (m - (a + 1)) + 1 := by omega
      rw [e, List.range'_1_concat, List.filter_cons, if_pos (decide_eq_true h), List.filter_nil]
      congr 2
      omega
    · have e : m + 1 - (a + 1) = m - (a + 1) := by omega
      rw [e, List.filter_cons, if_neg (by rw [decide_eq_false h]; exact Bool.false_ne_true), List.filter_nil, List.append_nil]
/-- the least sure number, less one -/
def lo (r : Rule) : Nat := (r.n - 2) * r.t + extra r
def hi (r : Rule) : Nat := (r.n - 1) * r.t
theorem numbers_is (r : Rule) : numbers r = List.range' (lo r + 1) (hi r + 1 - (lo r + 1)) := by
  rw [← range_above]
  unfold numbers
  refine List.filter_congr fun c hc => ?_
  have h1 : c < hi r + 1 := List.mem_range.mp hc
  show (decide ((r.n - 2) * r.t + extra r < c) && decide (c ≤ (r.n - 1) * r.t)) = decide (lo r < c)
  have h2 : decide (c ≤ (r.n - 1) * r.t) = true := decide_eq_true (by unfold hi at h1; omega)
  rw [h2, Bool.and_true]
  rfl
theorem hi_lo {r : Rule} (h2 : 2 ≤ r.n) : hi r + 1 - (lo r + 1) = r.t - extra r := by
  unfold hi lo
  obtain ⟨m, hm⟩ : ∃ m, r.n = m + 2 := ⟨r.n - 2, by omega⟩
  rw [hm]
  show (m + 2 - 1) * r.t + 1 - ((m + 2 - 2) * r.t + extra r + 1) = _
  have e1 : m + 2 - 1 = m + 1 := rfl
  have e2 : m + 2 - 2 = m := rfl
  rw [e1, e2, Nat.succ_mul]
  omega
theorem numbers_len {r : Rule} (h2 : 2 ≤ r.n) : (numbers r).length = r.t - extra r := by
  rw [numbers_is, List.length_range', hi_lo h2]
theorem numbers_head {r : Rule} (h2 : 2 ≤ r.n) (h : extra r < r.t) : (numbers r).headD 0 = lo r + 1 := by
  rw [numbers_is, hi_lo h2]
  obtain ⟨k, hk⟩ : ∃ k, r.t - extra r = k + 1 := ⟨r.t - extra r - 1, by omega⟩
  rw [hk, List.range'_succ]
  rfl
theorem numbers_last {r : Rule} (h2 : 2 ≤ r.n) (h : extra r < r.t) : (numbers r).getLastD 0 = hi r := by
  rw [numbers_is]
  have e := hi_lo h2
  obtain ⟨k, hk⟩ : ∃ k, hi r + 1 - (lo r + 1) = k + 1 := ⟨r.t - extra r - 1, by omega⟩
  rw [hk, List.range'_1_concat, List.getLastD_concat]
  omega
theorem numbers_none {r : Rule} (h2 : 2 ≤ r.n) (h : ¬ extra r < r.t) : numbers r = [] := by
  have e := numbers_len h2
  exact List.eq_nil_of_length_eq_zero (by omega)
theorem extra_le (r : Rule) : extra r ≤ 1 := by
  unfold extra
  split <;> omega
/-- the others have turned it on t times at the most -/
theorem others_called {r : Rule} {x : Now} (h : ∀ k ∈ x.turns.drop 1, k ≤ r.t) {p : Nat} (h1 : 1 ≤ p) : ∀ k ∈ (called r x p).turns.drop 1, k ≤ r.t := by
  cases hw : wt r x p with
  | false => rw [called_no hw]; exact h
  | true =>
    rw [called_turns hw]
    unfold up
    by_cases hp : p = 1
    · subst hp
      rw [List.drop_set]
      simp only [Nat.sub_self, Nat.zero_lt_one, if_true]
      exact h
    · intro k hk
      rw [List.drop_set, if_neg (by omega)] at hk
      rcases List.mem_or_eq_of_mem_set hk with z | z
      · exact h k z
      · unfold wt at hw
        rw [if_neg hp, Bool.and_eq_true, decide_eq_true_eq] at hw
        omega
theorem others_fold {r : Rule} : ∀ (l : List Nat) (x : Now), (∀ k ∈ x.turns.drop 1, k ≤ r.t) → (∀ p ∈ l, 1 ≤ p) → ∀ k ∈ (l.foldl (called r) x).turns.drop 1, k ≤ r.t
  | [], _, h, _ => h
  | p :: l, x, h, hp => others_fold l _ (others_called h (hp p (by simp))) fun q hq => hp q (by simp [hq])
theorem WF.others {s : St} (w : WF s) : ∀ k ∈ (now s).turns.drop 1, k ≤ s.rule.t := by
  refine others_fold s.calls _ (fun k hk => ?_) fun p hp => (w.ps p hp).1
  have h := List.mem_of_mem_drop hk
  have e : k = 0 := (List.mem_replicate.mp h).2
  omega
theorem fold_sum : ∀ (l : List Nat) (a : Nat), l.foldl (fun a b => a + b) a = a + l.sum
  | [], a => by simp
  | x :: l, a => by
    rw [List.foldl_cons, fold_sum l, List.sum_cons]
    omega
theorem can_sum (r : Rule) (x : Now) : can r x = ((x.turns.drop 1).map fun k => r.t - k).sum := by
  unfold can
  rw [fold_sum]
  omega
theorem rest_sum (t : Nat) : ∀ l : List Nat, (∀ k ∈ l, k ≤ t) → (l.map fun k => t - k).sum + l.sum = l.length * t
  | [], _ => by simp
  | x :: l, h => by
    have ih := rest_sum t l fun k hk => h k (by simp [hk])
    have hx := h x (by simp)
    rw [List.map_cons, List.sum_cons, List.sum_cons, List.length_cons, Nat.succ_mul]
    omega
/-- what the others can yet, and what they did -/
theorem WF.can {s : St} (w : WF s) : can s.rule (now s) + ((now s).turns.drop 1).sum = (s.rule.n - 1) * s.rule.t := by
  rw [can_sum, rest_sum s.rule.t _ w.others, List.length_drop, w.fit.len]
/-- right: all have been called -/
theorem all_is (s : St) : all s.rule s.calls = decide (((people s.rule.n).filter fun p => s.calls.contains p).length = s.rule.n) := by
  unfold all
  have h1 := people_len s.rule.n
  cases e : (people s.rule.n).all fun p => s.calls.contains p with
  | true =>
    rw [List.filter_eq_self.mpr (fun p hp => List.all_eq_true.mp e p hp), h1]
    exact (decide_eq_true rfl).symm
  | false =>
    refine (decide_eq_false fun z => ?_).symm
    have z2 : ((people s.rule.n).filter fun p => s.calls.contains p).length = (people s.rule.n).length := by rw [z, h1]
    have z3 := List.filter_eq_self.mp (List.filter_sublist.eq_of_length z2)
    rw [List.all_eq_true.mpr z3] at e
    cases e
end LM
end

section
set_option Elab.async false
set_option linter.all false
set_option maxRecDepth 100000
set_option Elab.async false
set_option linter.all false
set_option maxRecDepth 100000
namespace LP
open PySem PySem.Spec PyProof.Rows L2
/-! ### the text by places -/
def top (i : Nat) : Stmt := PySem.Challenge.pw_lampcell_s01_answers.main.body.getD i (.Pass ⟨0, 0, 0, 0⟩)
abbrev sInit : Stmt := inClass (top 6) 0
abbrev sBegin : Stmt := inClass (top 6) 1
abbrev sHas : Stmt := inClass (top 6) 2
abbrev sCounted : Stmt := inClass (top 6) 3
abbrev sSaid : Stmt := inClass (top 6) 4
abbrev sWould : Stmt := inClass (top 6) 5
abbrev sVisit : Stmt := inClass (top 6) 6
abbrev sUndo : Stmt := inClass (top 6) 7
abbrev sRound : Stmt := inClass (top 6) 8
abbrev sBeen : Stmt := inClass (top 6) 9
abbrev sAllBeen : Stmt := inClass (top 6) 10
abbrev sIsSure : Stmt := inClass (top 6) 11
abbrev sIsComing : Stmt := inClass (top 6) 12
abbrev sTillWrong : Stmt := inClass (top 6) 13
abbrev sLeft : Stmt := inClass (top 6) 14
abbrev sCanSaid : Stmt := inClass (top 6) 15
abbrev sTillSaid : Stmt := inClass (top 6) 16
abbrev sLeast : Stmt := top 1
abbrev sGreat : Stmt := top 2
abbrev sFewest : Stmt := top 3
abbrev sAsNum : Stmt := top 30
abbrev sWithin : Stmt := top 31
abbrev sFits : Stmt := top 32
abbrev sACell : Stmt := top 33
abbrev sACall : Stmt := top 34
abbrev sARounds : Stmt := top 35
abbrev sABack : Stmt := top 36
abbrev sAShows : Stmt := top 37
abbrev sABeen : Stmt := top 38
abbrev sATurned : Stmt := top 39
abbrev sARight : Stmt := top 40
abbrev sASure : Stmt := top 41
abbrev sAComes : Stmt := top 42
abbrev sANumbers : Stmt := top 43
abbrev sAWrong : Stmt := top 44
abbrev sASoon : Stmt := top 45
abbrev sAnswer : Stmt := top 46
abbrev sAnswers : Stmt := top 47
abbrev NInit : List Str := ["self"]
abbrev PInit : List Str := ["self"]
theorem scInit : FnScope NInit PInit (defScope sInit) := ⟨rfl, rfl, rfl, by decide +kernel, rfl, by decide +kernel, by decide +kernel⟩
abbrev NBegin : List Str := ["self", "people", "times", "goal", "known", "lamp"]
abbrev PBegin : List Str := ["self", "people", "times", "goal", "known", "lamp"]
theorem scBegin : FnScope NBegin PBegin (defScope sBegin) := ⟨rfl, rfl, rfl, by decide +kernel, rfl, by decide +kernel, by decide +kernel⟩
abbrev NHas : List Str := ["self", "person"]
abbrev PHas : List Str := ["self", "person"]
theorem scHas : FnScope NHas PHas (defScope sHas) := ⟨rfl, rfl, rfl, by decide +kernel, rfl, by decide +kernel, by decide +kernel⟩
abbrev NCounted : List Str := ["self"]
abbrev PCounted : List Str := ["self"]
theorem scCounted : FnScope NCounted PCounted (defScope sCounted) := ⟨rfl, rfl, rfl, by decide +kernel, rfl, by decide +kernel, by decide +kernel⟩
abbrev NSaid : List Str := ["self"]
abbrev PSaid : List Str := ["self"]
theorem scSaid : FnScope NSaid PSaid (defScope sSaid) := ⟨rfl, rfl, rfl, by decide +kernel, rfl, by decide +kernel, by decide +kernel⟩
abbrev NWould : List Str := ["self", "person"]
abbrev PWould : List Str := ["self", "person"]
theorem scWould : FnScope NWould PWould (defScope sWould) := ⟨rfl, rfl, rfl, by decide +kernel, rfl, by decide +kernel, by decide +kernel⟩
abbrev NVisit : List Str := ["self", "person", "turning"]
abbrev PVisit : List Str := ["self", "person"]
theorem scVisit : FnScope NVisit PVisit (defScope sVisit) := ⟨rfl, rfl, rfl, by decide +kernel, rfl, by decide +kernel, by decide +kernel⟩
abbrev NUndo : List Str := ["self", "last", "person"]
abbrev PUndo : List Str := ["self"]
theorem scUndo : FnScope NUndo PUndo (defScope sUndo) := ⟨rfl, rfl, rfl, by decide +kernel, rfl, by decide +kernel, by decide +kernel⟩
abbrev NRound : List Str := ["self", "rounds", "before", "step"]
abbrev PRound : List Str := ["self", "rounds"]
theorem scRound : FnScope NRound PRound (defScope sRound) := ⟨rfl, rfl, rfl, by decide +kernel, rfl, by decide +kernel, by decide +kernel⟩
abbrev NBeen : List Str := ["self", "visit"]
abbrev PBeen : List Str := ["self"]
theorem scBeen : FnScope NBeen PBeen (defScope sBeen) := ⟨rfl, rfl, rfl, by decide +kernel, rfl, by decide +kernel, by decide +kernel⟩
abbrev NAllBeen : List Str := ["self"]
abbrev PAllBeen : List Str := ["self"]
theorem scAllBeen : FnScope NAllBeen PAllBeen (defScope sAllBeen) := ⟨rfl, rfl, rfl, by decide +kernel, rfl, by decide +kernel, by decide +kernel⟩
abbrev NIsSure : List Str := ["self"]
abbrev PIsSure : List Str := ["self"]
theorem scIsSure : FnScope NIsSure PIsSure (defScope sIsSure) := ⟨rfl, rfl, rfl, by decide +kernel, rfl, by decide +kernel, by decide +kernel⟩
abbrev NIsComing : List Str := ["self"]
abbrev PIsComing : List Str := ["self"]
theorem scIsComing : FnScope NIsComing PIsComing (defScope sIsComing) := ⟨rfl, rfl, rfl, by decide +kernel, rfl, by decide +kernel, by decide +kernel⟩
abbrev NTillWrong : List Str := ["self"]
abbrev PTillWrong : List Str := ["self"]
theorem scTillWrong : FnScope NTillWrong PTillWrong (defScope sTillWrong) := ⟨rfl, rfl, rfl, by decide +kernel, rfl, by decide +kernel, by decide +kernel⟩
abbrev NLeft : List Str := ["self"]
abbrev PLeft : List Str := ["self"]
theorem scLeft : FnScope NLeft PLeft (defScope sLeft) := ⟨rfl, rfl, rfl, by decide +kernel, rfl, by decide +kernel, by decide +kernel⟩
abbrev NCanSaid : List Str := ["self"]
abbrev PCanSaid : List Str := ["self"]
theorem scCanSaid : FnScope NCanSaid PCanSaid (defScope sCanSaid) := ⟨rfl, rfl, rfl, by decide +kernel, rfl, by decide +kernel, by decide +kernel⟩
abbrev NTillSaid : List Str := ["self"]
abbrev PTillSaid : List Str := ["self"]
theorem scTillSaid : FnScope NTillSaid PTillSaid (defScope sTillSaid) := ⟨rfl, rfl, rfl, by decide +kernel, rfl, by decide +kernel, by decide +kernel⟩
abbrev NLeast : List Str := ["people", "times", "known", "from_others", "from_first"]
abbrev PLeast : List Str := ["people", "times", "known"]
theorem scLeast : FnScope NLeast PLeast (defScope sLeast) := ⟨rfl, rfl, rfl, by decide +kernel, rfl, by decide +kernel, by decide +kernel⟩
abbrev NGreat : List Str := ["people", "times"]
abbrev PGreat : List Str := ["people", "times"]
theorem scGreat : FnScope NGreat PGreat (defScope sGreat) := ⟨rfl, rfl, rfl, by decide +kernel, rfl, by decide +kernel, by decide +kernel⟩
abbrev NFewest : List Str := ["wanted", "burning"]
abbrev PFewest : List Str := ["wanted", "burning"]
theorem scFewest : FnScope NFewest PFewest (defScope sFewest) := ⟨rfl, rfl, rfl, by decide +kernel, rfl, by decide +kernel, by decide +kernel⟩
abbrev NAsNum : List Str := ["truth"]
abbrev PAsNum : List Str := ["truth"]
theorem scAsNum : FnScope NAsNum PAsNum (defScope sAsNum) := ⟨rfl, rfl, rfl, by decide +kernel, rfl, by decide +kernel, by decide +kernel⟩
abbrev NWithin : List Str := ["number", "least", "greatest"]
abbrev PWithin : List Str := ["number", "least", "greatest"]
theorem scWithin : FnScope NWithin PWithin (defScope sWithin) := ⟨rfl, rfl, rfl, by decide +kernel, rfl, by decide +kernel, by decide +kernel⟩
abbrev NFits : List Str := ["people", "times", "goal", "known", "lamp"]
abbrev PFits : List Str := ["people", "times", "goal", "known", "lamp"]
theorem scFits : FnScope NFits PFits (defScope sFits) := ⟨rfl, rfl, rfl, by decide +kernel, rfl, by decide +kernel, by decide +kernel⟩
abbrev NACell : List Str := ["cell", "people", "times", "goal", "known", "lamp"]
abbrev PACell : List Str := ["cell", "people", "times", "goal", "known", "lamp"]
theorem scACell : FnScope NACell PACell (defScope sACell) := ⟨rfl, rfl, rfl, by decide +kernel, rfl, by decide +kernel, by decide +kernel⟩
abbrev NACall : List Str := ["cell", "person"]
abbrev PACall : List Str := ["cell", "person"]
theorem scACall : FnScope NACall PACall (defScope sACall) := ⟨rfl, rfl, rfl, by decide +kernel, rfl, by decide +kernel, by decide +kernel⟩
abbrev NARounds : List Str := ["cell", "rounds", "made"]
abbrev PARounds : List Str := ["cell", "rounds"]
theorem scARounds : FnScope NARounds PARounds (defScope sARounds) := ⟨rfl, rfl, rfl, by decide +kernel, rfl, by decide +kernel, by decide +kernel⟩
abbrev NABack : List Str := ["cell"]
abbrev PABack : List Str := ["cell"]
theorem scABack : FnScope NABack PABack (defScope sABack) := ⟨rfl, rfl, rfl, by decide +kernel, rfl, by decide +kernel, by decide +kernel⟩
abbrev NAShows : List Str := ["cell"]
abbrev PAShows : List Str := ["cell"]
theorem scAShows : FnScope NAShows PAShows (defScope sAShows) := ⟨rfl, rfl, rfl, by decide +kernel, rfl, by decide +kernel, by decide +kernel⟩
abbrev NABeen : List Str := ["cell", "people"]
abbrev PABeen : List Str := ["cell"]
theorem scABeen : FnScope NABeen PABeen (defScope sABeen) := ⟨rfl, rfl, rfl, by decide +kernel, rfl, by decide +kernel, by decide +kernel⟩
abbrev NATurned : List Str := ["cell", "person"]
abbrev PATurned : List Str := ["cell", "person"]
theorem scATurned : FnScope NATurned PATurned (defScope sATurned) := ⟨rfl, rfl, rfl, by decide +kernel, rfl, by decide +kernel, by decide +kernel⟩
abbrev NARight : List Str := ["cell"]
abbrev PARight : List Str := ["cell"]
theorem scARight : FnScope NARight PARight (defScope sARight) := ⟨rfl, rfl, rfl, by decide +kernel, rfl, by decide +kernel, by decide +kernel⟩
abbrev NASure : List Str := ["cell"]
abbrev PASure : List Str := ["cell"]
theorem scASure : FnScope NASure PASure (defScope sASure) := ⟨rfl, rfl, rfl, by decide +kernel, rfl, by decide +kernel, by decide +kernel⟩
abbrev NAComes : List Str := ["cell"]
abbrev PAComes : List Str := ["cell"]
theorem scAComes : FnScope NAComes PAComes (defScope sAComes) := ⟨rfl, rfl, rfl, by decide +kernel, rfl, by decide +kernel, by decide +kernel⟩
abbrev NANumbers : List Str := ["cell", "least", "greatest"]
abbrev PANumbers : List Str := ["cell"]
theorem scANumbers : FnScope NANumbers PANumbers (defScope sANumbers) := ⟨rfl, rfl, rfl, by decide +kernel, rfl, by decide +kernel, by decide +kernel⟩
abbrev NAWrong : List Str := ["cell"]
abbrev PAWrong : List Str := ["cell"]
theorem scAWrong : FnScope NAWrong PAWrong (defScope sAWrong) := ⟨rfl, rfl, rfl, by decide +kernel, rfl, by decide +kernel, by decide +kernel⟩
abbrev NASoon : List Str := ["cell"]
abbrev PASoon : List Str := ["cell"]
theorem scASoon : FnScope NASoon PASoon (defScope sASoon) := ⟨rfl, rfl, rfl, by decide +kernel, rfl, by decide +kernel, by decide +kernel⟩
abbrev NAnswer : List Str := ["cell", "number", "given"]
abbrev PAnswer : List Str := ["cell", "number", "given"]
theorem scAnswer : FnScope NAnswer PAnswer (defScope sAnswer) := ⟨rfl, rfl, rfl, by decide +kernel, rfl, by decide +kernel, by decide +kernel⟩
abbrev NAnswers : List Str := ["calls", "cell", "told", "start", "number", "end", "numbers"]
abbrev PAnswers : List Str := ["calls"]
theorem scAnswers : FnScope NAnswers PAnswers (defScope sAnswers) := ⟨rfl, rfl, rfl, by decide +kernel, rfl, by decide +kernel, by decide +kernel⟩
/-! ### what stands behind the top -/
structure Prg (K : PySem.W.Frag) (mg : Str → Option Value) where
  C : Addr
  cl : Cls K C
  makes : PySem.W.makesIn K C = true
  kc : PySem.W.keepIn K (.ref C) = true
  mgC : mg "Cell" = some (.ref C)
  a_people : NoAttr K C "people"
  a_times : NoAttr K C "times"
  a_goal : NoAttr K C "goal"
  a_known : NoAttr K C "known"
  a_lamp : NoAttr K C "lamp"
  a_visits : NoAttr K C "visits"
  a_turns : NoAttr K C "turns"
  t_COUNTER : Tok
  c_COUNTER : mg "COUNTER" = some (.int (1) t_COUNTER)
  t_CELL : Tok
  c_CELL : mg "CELL" = some (.int (0) t_CELL)
  t_CALL : Tok
  c_CALL : mg "CALL" = some (.int (1) t_CALL)
  t_ROUNDS : Tok
  c_ROUNDS : mg "ROUNDS" = some (.int (2) t_ROUNDS)
  t_BACK : Tok
  c_BACK : mg "BACK" = some (.int (3) t_BACK)
  t_SHOWS : Tok
  c_SHOWS : mg "SHOWS" = some (.int (4) t_SHOWS)
  t_BEEN : Tok
  c_BEEN : mg "BEEN" = some (.int (5) t_BEEN)
  t_TURNED : Tok
  c_TURNED : mg "TURNED" = some (.int (6) t_TURNED)
  t_RIGHT : Tok
  c_RIGHT : mg "RIGHT" = some (.int (7) t_RIGHT)
  t_SURE : Tok
  c_SURE : mg "SURE" = some (.int (8) t_SURE)
  t_COMES : Tok
  c_COMES : mg "COMES" = some (.int (9) t_COMES)
  t_NUMBERS : Tok
  c_NUMBERS : mg "NUMBERS" = some (.int (10) t_NUMBERS)
  t_WRONG : Tok
  c_WRONG : mg "WRONG" = some (.int (11) t_WRONG)
  t_OUT_OF_BOUNDS : Tok
  c_OUT_OF_BOUNDS : mg "OUT_OF_BOUNDS" = some (.int (-1) t_OUT_OF_BOUNDS)
  t_NO_SUCH_PERSON : Tok
  c_NO_SUCH_PERSON : mg "NO_SUCH_PERSON" = some (.int (-2) t_NO_SUCH_PERSON)
  t_NOT_SAID : Tok
  c_NOT_SAID : mg "NOT_SAID" = some (.int (-6) t_NOT_SAID)
  t_NOBODY_CALLED : Tok
  c_NOBODY_CALLED : mg "NOBODY_CALLED" = some (.int (-7) t_NOBODY_CALLED)
  t_ALREADY_SAID : Tok
  c_ALREADY_SAID : mg "ALREADY_SAID" = some (.int (-9) t_ALREADY_SAID)
  t_MOST_PEOPLE : Tok
  c_MOST_PEOPLE : mg "MOST_PEOPLE" = some (.int (20) t_MOST_PEOPLE)
  t_MOST_TIMES : Tok
  c_MOST_TIMES : mg "MOST_TIMES" = some (.int (20) t_MOST_TIMES)
  t_MOST_GOAL : Tok
  c_MOST_GOAL : mg "MOST_GOAL" = some (.int (400) t_MOST_GOAL)
  t_MOST_ROUNDS : Tok
  c_MOST_ROUNDS : mg "MOST_ROUNDS" = some (.int (100) t_MOST_ROUNDS)
  w_WIDTHS : Addr
  c_WIDTHS : mg "WIDTHS" = some (.ref w_WIDTHS)
  q_WIDTHS : ∀ H : Hp, SqT K H w_WIDTHS [.int 5, .int 1, .int 1, .int 0, .int 0, .int 0, .int 1, .int 0, .int 0, .int 0, .int 0, .int 0, .int 0]
  n_len : mg "len" = none
  n_range : mg "range" = none
  n_set : mg "set" = none
  n_sorted : mg "sorted" = none
  n_sum : mg "sum" = none
  fInit : Addr
  dInit : FuncData
  FInit : Fun K "__init__" "Cell.__init__" sInit fInit dInit
  mInit : Meth K C "__init__" fInit
  fBegin : Addr
  dBegin : FuncData
  FBegin : Fun K "begin" "Cell.begin" sBegin fBegin dBegin
  mBegin : Meth K C "begin" fBegin
  fHas : Addr
  dHas : FuncData
  FHas : Fun K "has_person" "Cell.has_person" sHas fHas dHas
  mHas : Meth K C "has_person" fHas
  fCounted : Addr
  dCounted : FuncData
  FCounted : Fun K "counted" "Cell.counted" sCounted fCounted dCounted
  mCounted : Meth K C "counted" fCounted
  fSaid : Addr
  dSaid : FuncData
  FSaid : Fun K "said" "Cell.said" sSaid fSaid dSaid
  mSaid : Meth K C "said" fSaid
  fWould : Addr
  dWould : FuncData
  FWould : Fun K "would_turn" "Cell.would_turn" sWould fWould dWould
  mWould : Meth K C "would_turn" fWould
  fVisit : Addr
  dVisit : FuncData
  FVisit : Fun K "visit" "Cell.visit" sVisit fVisit dVisit
  mVisit : Meth K C "visit" fVisit
  fUndo : Addr
  dUndo : FuncData
  FUndo : Fun K "undo" "Cell.undo" sUndo fUndo dUndo
  mUndo : Meth K C "undo" fUndo
  fRound : Addr
  dRound : FuncData
  FRound : Fun K "go_round" "Cell.go_round" sRound fRound dRound
  mRound : Meth K C "go_round" fRound
  fBeen : Addr
  dBeen : FuncData
  FBeen : Fun K "been" "Cell.been" sBeen fBeen dBeen
  mBeen : Meth K C "been" fBeen
  fAllBeen : Addr
  dAllBeen : FuncData
  FAllBeen : Fun K "all_been" "Cell.all_been" sAllBeen fAllBeen dAllBeen
  mAllBeen : Meth K C "all_been" fAllBeen
  fIsSure : Addr
  dIsSure : FuncData
  FIsSure : Fun K "is_sure" "Cell.is_sure" sIsSure fIsSure dIsSure
  mIsSure : Meth K C "is_sure" fIsSure
  fIsComing : Addr
  dIsComing : FuncData
  FIsComing : Fun K "is_coming" "Cell.is_coming" sIsComing fIsComing dIsComing
  mIsComing : Meth K C "is_coming" fIsComing
  fTillWrong : Addr
  dTillWrong : FuncData
  FTillWrong : Fun K "fewest_till_wrong" "Cell.fewest_till_wrong" sTillWrong fTillWrong dTillWrong
  mTillWrong : Meth K C "fewest_till_wrong" fTillWrong
  fLeft : Addr
  dLeft : FuncData
  FLeft : Fun K "turns_left" "Cell.turns_left" sLeft fLeft dLeft
  mLeft : Meth K C "turns_left" fLeft
  fCanSaid : Addr
  dCanSaid : FuncData
  FCanSaid : Fun K "can_be_said" "Cell.can_be_said" sCanSaid fCanSaid dCanSaid
  mCanSaid : Meth K C "can_be_said" fCanSaid
  fTillSaid : Addr
  dTillSaid : FuncData
  FTillSaid : Fun K "fewest_till_said" "Cell.fewest_till_said" sTillSaid fTillSaid dTillSaid
  mTillSaid : Meth K C "fewest_till_said" fTillSaid
  fLeast : Addr
  dLeast : FuncData
  FLeast : Fun K "least_sure" "least_sure" sLeast fLeast dLeast
  gLeast : mg "least_sure" = some (.ref fLeast)
  kLeast : PySem.W.keepIn K (.ref fLeast) = true
  fGreat : Addr
  dGreat : FuncData
  FGreat : Fun K "greatest_coming" "greatest_coming" sGreat fGreat dGreat
  gGreat : mg "greatest_coming" = some (.ref fGreat)
  kGreat : PySem.W.keepIn K (.ref fGreat) = true
  fFewest : Addr
  dFewest : FuncData
  FFewest : Fun K "fewest_visits" "fewest_visits" sFewest fFewest dFewest
  gFewest : mg "fewest_visits" = some (.ref fFewest)
  kFewest : PySem.W.keepIn K (.ref fFewest) = true
  fAsNum : Addr
  dAsNum : FuncData
  FAsNum : Fun K "as_number" "as_number" sAsNum fAsNum dAsNum
  gAsNum : mg "as_number" = some (.ref fAsNum)
  kAsNum : PySem.W.keepIn K (.ref fAsNum) = true
  fWithin : Addr
  dWithin : FuncData
  FWithin : Fun K "within" "within" sWithin fWithin dWithin
  gWithin : mg "within" = some (.ref fWithin)
  kWithin : PySem.W.keepIn K (.ref fWithin) = true
  fFits : Addr
  dFits : FuncData
  FFits : Fun K "cell_fits" "cell_fits" sFits fFits dFits
  gFits : mg "cell_fits" = some (.ref fFits)
  kFits : PySem.W.keepIn K (.ref fFits) = true
  fACell : Addr
  dACell : FuncData
  FACell : Fun K "answer_cell" "answer_cell" sACell fACell dACell
  gACell : mg "answer_cell" = some (.ref fACell)
  kACell : PySem.W.keepIn K (.ref fACell) = true
  fACall : Addr
  dACall : FuncData
  FACall : Fun K "answer_call" "answer_call" sACall fACall dACall
  gACall : mg "answer_call" = some (.ref fACall)
  kACall : PySem.W.keepIn K (.ref fACall) = true
  fARounds : Addr
  dARounds : FuncData
  FARounds : Fun K "answer_rounds" "answer_rounds" sARounds fARounds dARounds
  gARounds : mg "answer_rounds" = some (.ref fARounds)
  kARounds : PySem.W.keepIn K (.ref fARounds) = true
  fABack : Addr
  dABack : FuncData
  FABack : Fun K "answer_back" "answer_back" sABack fABack dABack
  gABack : mg "answer_back" = some (.ref fABack)
  kABack : PySem.W.keepIn K (.ref fABack) = true
  fAShows : Addr
  dAShows : FuncData
  FAShows : Fun K "answer_shows" "answer_shows" sAShows fAShows dAShows
  gAShows : mg "answer_shows" = some (.ref fAShows)
  kAShows : PySem.W.keepIn K (.ref fAShows) = true
  fABeen : Addr
  dABeen : FuncData
  FABeen : Fun K "answer_been" "answer_been" sABeen fABeen dABeen
  gABeen : mg "answer_been" = some (.ref fABeen)
  kABeen : PySem.W.keepIn K (.ref fABeen) = true
  fATurned : Addr
  dATurned : FuncData
  FATurned : Fun K "answer_turned" "answer_turned" sATurned fATurned dATurned
  gATurned : mg "answer_turned" = some (.ref fATurned)
  kATurned : PySem.W.keepIn K (.ref fATurned) = true
  fARight : Addr
  dARight : FuncData
  FARight : Fun K "answer_right" "answer_right" sARight fARight dARight
  gARight : mg "answer_right" = some (.ref fARight)
  kARight : PySem.W.keepIn K (.ref fARight) = true
  fASure : Addr
  dASure : FuncData
  FASure : Fun K "answer_sure" "answer_sure" sASure fASure dASure
  gASure : mg "answer_sure" = some (.ref fASure)
  kASure : PySem.W.keepIn K (.ref fASure) = true
  fAComes : Addr
  dAComes : FuncData
  FAComes : Fun K "answer_comes" "answer_comes" sAComes fAComes dAComes
  gAComes : mg "answer_comes" = some (.ref fAComes)
  kAComes : PySem.W.keepIn K (.ref fAComes) = true
  fANumbers : Addr
  dANumbers : FuncData
  FANumbers : Fun K "answer_numbers" "answer_numbers" sANumbers fANumbers dANumbers
  gANumbers : mg "answer_numbers" = some (.ref fANumbers)
  kANumbers : PySem.W.keepIn K (.ref fANumbers) = true
  fAWrong : Addr
  dAWrong : FuncData
  FAWrong : Fun K "answer_wrong" "answer_wrong" sAWrong fAWrong dAWrong
  gAWrong : mg "answer_wrong" = some (.ref fAWrong)
  kAWrong : PySem.W.keepIn K (.ref fAWrong) = true
  fASoon : Addr
  dASoon : FuncData
  FASoon : Fun K "answer_soon" "answer_soon" sASoon fASoon dASoon
  gASoon : mg "answer_soon" = some (.ref fASoon)
  kASoon : PySem.W.keepIn K (.ref fASoon) = true
  fAnswer : Addr
  dAnswer : FuncData
  FAnswer : Fun K "answer" "answer" sAnswer fAnswer dAnswer
  gAnswer : mg "answer" = some (.ref fAnswer)
  kAnswer : PySem.W.keepIn K (.ref fAnswer) = true
  fAnswers : Addr
  dAnswers : FuncData
  FAnswers : Fun K "answers" "answers" sAnswers fAnswers dAnswers
  gAnswers : mg "answers" = some (.ref fAnswers)
  kAnswers : PySem.W.keepIn K (.ref fAnswers) = true
theorem bInit {K : PySem.W.Frag} {mg : Str → Option Value} (p : Prg K mg) : Binds K p.dInit PInit [] := p.FInit.binds fun _ _ _ _ _ _ us hl => match us, hl with | [_], _ => rfl
theorem bBegin {K : PySem.W.Frag} {mg : Str → Option Value} (p : Prg K mg) : Binds K p.dBegin PBegin [] := p.FBegin.binds fun _ _ _ _ _ _ us hl => match us, hl with | [_, _, _, _, _, _], _ => rfl
theorem bHas {K : PySem.W.Frag} {mg : Str → Option Value} (p : Prg K mg) : Binds K p.dHas PHas [] := p.FHas.binds fun _ _ _ _ _ _ us hl => match us, hl with | [_, _], _ => rfl
theorem bCounted {K : PySem.W.Frag} {mg : Str → Option Value} (p : Prg K mg) : Binds K p.dCounted PCounted [] := p.FCounted.binds fun _ _ _ _ _ _ us hl => match us, hl with | [_], _ => rfl
theorem bSaid {K : PySem.W.Frag} {mg : Str → Option Value} (p : Prg K mg) : Binds K p.dSaid PSaid [] := p.FSaid.binds fun _ _ _ _ _ _ us hl => match us, hl with | [_], _ => rfl
theorem bWould {K : PySem.W.Frag} {mg : Str → Option Value} (p : Prg K mg) : Binds K p.dWould PWould [] := p.FWould.binds fun _ _ _ _ _ _ us hl => match us, hl with | [_, _], _ => rfl
theorem bVisit {K : PySem.W.Frag} {mg : Str → Option Value} (p : Prg K mg) : Binds K p.dVisit PVisit [] := p.FVisit.binds fun _ _ _ _ _ _ us hl => match us, hl with | [_, _], _ => rfl
theorem bUndo {K : PySem.W.Frag} {mg : Str → Option Value} (p : Prg K mg) : Binds K p.dUndo PUndo [] := p.FUndo.binds fun _ _ _ _ _ _ us hl => match us, hl with | [_], _ => rfl
theorem bRound {K : PySem.W.Frag} {mg : Str → Option Value} (p : Prg K mg) : Binds K p.dRound PRound [] := p.FRound.binds fun _ _ _ _ _ _ us hl => match us, hl with | [_, _], _ => rfl
theorem bBeen {K : PySem.W.Frag} {mg : Str → Option Value} (p : Prg K mg) : Binds K p.dBeen PBeen [] := p.FBeen.binds fun _ _ _ _ _ _ us hl => match us, hl with | [_], _ => rfl
theorem bAllBeen {K : PySem.W.Frag} {mg : Str → Option Value} (p : Prg K mg) : Binds K p.dAllBeen PAllBeen [] := p.FAllBeen.binds fun _ _ _ _ _ _ us hl => match us, hl with | [_], _ => rfl
theorem bIsSure {K : PySem.W.Frag} {mg : Str → Option Value} (p : Prg K mg) : Binds K p.dIsSure PIsSure [] := p.FIsSure.binds fun _ _ _ _ _ _ us hl => match us, hl with | [_], _ => rfl
theorem bIsComing {K : PySem.W.Frag} {mg : Str → Option Value} (p : Prg K mg) : Binds K p.dIsComing PIsComing [] := p.FIsComing.binds fun _ _ _ _ _ _ us hl => match us, hl with | [_], _ => rfl
theorem bTillWrong {K : PySem.W.Frag} {mg : Str → Option Value} (p : Prg K mg) : Binds K p.dTillWrong PTillWrong [] := p.FTillWrong.binds fun _ _ _ _ _ _ us hl => match us, hl with | [_], _ => rfl
theorem bLeft {K : PySem.W.Frag} {mg : Str → Option Value} (p : Prg K mg) : Binds K p.dLeft PLeft [] := p.FLeft.binds fun _ _ _ _ _ _ us hl => match us, hl with | [_], _ => rfl
theorem bCanSaid {K : PySem.W.Frag} {mg : Str → Option Value} (p : Prg K mg) : Binds K p.dCanSaid PCanSaid [] := p.FCanSaid.binds fun _ _ _ _ _ _ us hl => match us, hl with | [_], _ => rfl
theorem bTillSaid {K : PySem.W.Frag} {mg : Str → Option Value} (p : Prg K mg) : Binds K p.dTillSaid PTillSaid [] := p.FTillSaid.binds fun _ _ _ _ _ _ us hl => match us, hl with | [_], _ => rfl
theorem bLeast {K : PySem.W.Frag} {mg : Str → Option Value} (p : Prg K mg) : Binds K p.dLeast PLeast [] := p.FLeast.binds fun _ _ _ _ _ _ us hl => match us, hl with | [_, _, _], _ => rfl
theorem bGreat {K : PySem.W.Frag} {mg : Str → Option Value} (p : Prg K mg) : Binds K p.dGreat PGreat [] := p.FGreat.binds fun _ _ _ _ _ _ us hl => match us, hl with | [_, _], _ => rfl
theorem bFewest {K : PySem.W.Frag} {mg : Str → Option Value} (p : Prg K mg) : Binds K p.dFewest PFewest [] := p.FFewest.binds fun _ _ _ _ _ _ us hl => match us, hl with | [_, _], _ => rfl
theorem bAsNum {K : PySem.W.Frag} {mg : Str → Option Value} (p : Prg K mg) : Binds K p.dAsNum PAsNum [] := p.FAsNum.binds fun _ _ _ _ _ _ us hl => match us, hl with | [_], _ => rfl
theorem bWithin {K : PySem.W.Frag} {mg : Str → Option Value} (p : Prg K mg) : Binds K p.dWithin PWithin [] := p.FWithin.binds fun _ _ _ _ _ _ us hl => match us, hl with | [_, _, _], _ => rfl
theorem bFits {K : PySem.W.Frag} {mg : Str → Option Value} (p : Prg K mg) : Binds K p.dFits PFits [] := p.FFits.binds fun _ _ _ _ _ _ us hl => match us, hl with | [_, _, _, _, _], _ => rfl
theorem bACell {K : PySem.W.Frag} {mg : Str → Option Value} (p : Prg K mg) : Binds K p.dACell PACell [] := p.FACell.binds fun _ _ _ _ _ _ us hl => match us, hl with | [_, _, _, _, _, _], _ => rfl
theorem bACall {K : PySem.W.Frag} {mg : Str → Option Value} (p : Prg K mg) : Binds K p.dACall PACall [] := p.FACall.binds fun _ _ _ _ _ _ us hl => match us, hl with | [_, _], _ => rfl
theorem bARounds {K : PySem.W.Frag} {mg : Str → Option Value} (p : Prg K mg) : Binds K p.dARounds PARounds [] := p.FARounds.binds fun _ _ _ _ _ _ us hl => match us, hl with | [_, _], _ => rfl
theorem bABack {K : PySem.W.Frag} {mg : Str → Option Value} (p : Prg K mg) : Binds K p.dABack PABack [] := p.FABack.binds fun _ _ _ _ _ _ us hl => match us, hl with | [_], _ => rfl
theorem bAShows {K : PySem.W.Frag} {mg : Str → Option Value} (p : Prg K mg) : Binds K p.dAShows PAShows [] := p.FAShows.binds fun _ _ _ _ _ _ us hl => match us, hl with | [_], _ => rfl
theorem bABeen {K : PySem.W.Frag} {mg : Str → Option Value} (p : Prg K mg) : Binds K p.dABeen PABeen [] := p.FABeen.binds fun _ _ _ _ _ _ us hl => match us, hl with | [_], _ => rfl
theorem bATurned {K : PySem.W.Frag} {mg : Str → Option Value} (p : Prg K mg) : Binds K p.dATurned PATurned [] := p.FATurned.binds fun _ _ _ _ _ _ us hl => match us, hl with | [_, _], _ => rfl
theorem bARight {K : PySem.W.Frag} {mg : Str → Option Value} (p : Prg K mg) : Binds K p.dARight PARight [] := p.FARight.binds fun _ _ _ _ _ _ us hl => match us, hl with | [_], _ => rfl
theorem bASure {K : PySem.W.Frag} {mg : Str → Option Value} (p : Prg K mg) : Binds K p.dASure PASure [] := p.FASure.binds fun _ _ _ _ _ _ us hl => match us, hl with | [_], _ => rfl
theorem bAComes {K : PySem.W.Frag} {mg : Str → Option Value} (p : Prg K mg) : Binds K p.dAComes PAComes [] := p.FAComes.binds fun _ _ _ _ _ _ us hl => match us, hl with | [_], _ => rfl
theorem bANumbers {K : PySem.W.Frag} {mg : Str → Option Value} (p : Prg K mg) : Binds K p.dANumbers PANumbers [] := p.FANumbers.binds fun _ _ _ _ _ _ us hl => match us, hl with | [_], _ => rfl
theorem bAWrong {K : PySem.W.Frag} {mg : Str → Option Value} (p : Prg K mg) : Binds K p.dAWrong PAWrong [] := p.FAWrong.binds fun _ _ _ _ _ _ us hl => match us, hl with | [_], _ => rfl
theorem bASoon {K : PySem.W.Frag} {mg : Str → Option Value} (p : Prg K mg) : Binds K p.dASoon PASoon [] := p.FASoon.binds fun _ _ _ _ _ _ us hl => match us, hl with | [_], _ => rfl
theorem bAnswer {K : PySem.W.Frag} {mg : Str → Option Value} (p : Prg K mg) : Binds K p.dAnswer PAnswer [] := p.FAnswer.binds fun _ _ _ _ _ _ us hl => match us, hl with | [_, _, _], _ => rfl
theorem bAnswers {K : PySem.W.Frag} {mg : Str → Option Value} (p : Prg K mg) : Binds K p.dAnswers PAnswers [] := p.FAnswers.binds fun _ _ _ _ _ _ us hl => match us, hl with | [_], _ => rfl
end LP
end

section
set_option Elab.async false
set_option linter.all false
set_option maxRecDepth 100000
set_option Elab.async false
set_option linter.all false
set_option maxRecDepth 100000
namespace LP
open PySem PySem.Spec PyProof.Rows L2 LM
/-! ### the cell in the heap -/
def fl (b : Bool) : Int := ((Ux07.flag b : Nat) : Int)
theorem fl_one (b : Bool) : decide (fl b = 1) = b := by cases b <;> rfl
theorem fl_zero (b : Bool) : decide (fl b = 0) = !b := by cases b <;> rfl
theorem fl_not (b : Bool) : (1 : Int) - fl b = fl (!b) := by cases b <;> rfl
def cf (n t g k l : Int) (v u : Addr) : List (Str × V) := [("people", .int n), ("times", .int t), ("goal", .int g), ("known", .int k), ("lamp", .int l), ("visits", .ref v), ("turns", .ref u)]
def tv (l : List Nat) : List V := .int 0 :: l.map fun (k : Nat) => .int k
theorem tv_at {l : List Nat} {p : Nat} (h1 : 1 ≤ p) (h2 : p ≤ l.length) : (tv l)[p]? = some (.int (l.getD (p - 1) 0 : Nat)) := by
  obtain ⟨q, rfl⟩ : ∃ q, p = q + 1 := ⟨p - 1, by omega⟩
  show (l.map fun (k : Nat) => V.int k)[q]? = _
  rw [List.getElem?_map, Nat.add_sub_cancel, List.getD_eq_getElem?_getD, List.getElem?_eq_getElem (by omega)]
  rfl
theorem tv_set {l : List Nat} {p k : Nat} (h1 : 1 ≤ p) : (tv l).set p (.int k) = tv (l.set (p - 1) k) := by
  obtain ⟨q, rfl⟩ : ∃ q, p = q + 1 := ⟨p - 1, by omega⟩
  show V.int 0 :: (l.map fun (k : Nat) => V.int k).set q (.int k) = _
  unfold tv
  rw [Nat.add_sub_cancel, List.map_set]
/-- the tuples of the visits -/
structure VisAt (H : Hp) (as : List Addr) (vs : List (Nat × Bool)) : Prop where
  len : as.length = vs.length
  at_ : ∀ (i : Nat) (a : Addr), as[i]? = some a → ∃ q, vs[i]? = some q ∧ H a = some (.tup [.int (q.1 : Nat), .bl q.2])
theorem VisAt.nil (H : Hp) : VisAt H [] [] := ⟨rfl, fun i a h => by simp at h⟩
theorem VisAt.keep {H H' : Hp} {as : List Addr} {vs : List (Nat × Bool)} (h : VisAt H as vs) (k : ∀ b xs, H b = some (.tup xs) → H' b = some (.tup xs)) : VisAt H' as vs :=
  ⟨h.len, fun i a e => let ⟨q, e1, e2⟩ := h.at_ i a e; ⟨q, e1, k _ _ e2⟩⟩
theorem VisAt.snoc {H : Hp} {as : List Addr} {vs : List (Nat × Bool)} {a : Addr} {q : Nat × Bool} (h : VisAt H as vs) (e : H a = some (.tup [.int (q.1 : Nat), .bl q.2])) : VisAt H (as ++ [a]) (vs ++ [q]) := by
  refine ⟨by rw [List.length_append, List.length_append, h.len]; rfl, fun i b hb => ?_⟩
  rcases Nat.lt_trichotomy i as.length with z | z | z
  · rw [List.getElem?_append_left z] at hb
    obtain ⟨r, e1, e2⟩ := h.at_ i b hb
    exact ⟨r, by rw [List.getElem?_append_left (by rw [← h.len]; exact z)]; exact e1, e2⟩
  · subst z
    rw [List.getElem?_append_right (Nat.le_refl _), Nat.sub_self] at hb
    cases hb
    exact ⟨q, by rw [h.len, List.getElem?_append_right (Nat.le_refl _), Nat.sub_self]; rfl, e⟩
  · rw [List.getElem?_eq_none (by rw [List.length_append]; simp; omega)] at hb
    cases hb
theorem VisAt.last {H : Hp} {as : List Addr} {vs : List (Nat × Bool)} {q : Nat × Bool} (h : VisAt H as (vs ++ [q])) : ∃ as' a, as = as' ++ [a] ∧ VisAt H as' vs ∧ H a = some (.tup [.int (q.1 : Nat), .bl q.2]) := by
  have hl : as.length = vs.length + 1 := by rw [h.len, List.length_append]; rfl
  have hne : as ≠ [] := fun e => by rw [e] at hl; simp at hl
  refine ⟨as.dropLast, as.getLast hne, (List.dropLast_concat_getLast hne).symm, ⟨by rw [List.length_dropLast]; omega, fun i a e => ?_⟩, ?_⟩
  · have hi : i < as.dropLast.length := (List.getElem?_eq_some_iff.mp e).1
    rw [List.length_dropLast] at hi
    have e' : as[i]? = some a := by rw [List.getElem?_dropLast, if_pos (by omega)] at e; exact e
    obtain ⟨r, e1, e2⟩ := h.at_ i a e'
    rw [List.getElem?_append_left (by omega)] at e1
    exact ⟨r, e1, e2⟩
  · have e' : as[vs.length]? = some (as.getLast hne) := by rw [List.getLast_eq_getElem, List.getElem?_eq_getElem (by omega)]; congr 2; omega
    obtain ⟨r, e1, e2⟩ := h.at_ _ _ e'
    rw [List.getElem?_append_right (Nat.le_refl _), Nat.sub_self] at e1
    cases e1
    exact e2
/-- the cell at c stands as s says; its visits at v, its turns at u -/
structure CellAt (C : Addr) (H : Hp) (c v u : Addr) (s : Ux07.St) : Prop where
  obj : ∃ dx, H c = some (.ins C dx (cf s.rule.n s.rule.t s.rule.c (fl s.rule.known) (fl (Ux07.now s).lamp) v u))
  vis : ∃ as : List Addr, H v = some (.lst (as.map V.ref)) ∧ VisAt H as (LM.vis s.rule (Ux07.first s.rule) s.calls)
  tur : H u = some (.lst (tv (Ux07.now s).turns))
  vu : v ≠ u
/-- all but the cell's own three objects is as it was -/
def Keep (H H' : Hp) (c v u : Addr) : Prop := ∀ b o, H b = some o → b ≠ c → b ≠ v → b ≠ u → H' b = some o
theorem Keep.refl (H : Hp) (c v u : Addr) : Keep H H c v u := fun _ _ e _ _ _ => e
theorem Keep.trans {H H1 H2 : Hp} {c v u : Addr} (a : Keep H H1 c v u) (b : Keep H1 H2 c v u) : Keep H H2 c v u := fun x o e h1 h2 h3 => b x o (a x o e h1 h2 h3) h1 h2 h3
theorem CellAt.cv {C : Addr} {H : Hp} {c v u : Addr} {s : Ux07.St} (h : CellAt C H c v u s) : c ≠ v := by
  obtain ⟨dx, e⟩ := h.obj
  obtain ⟨as, e2, _⟩ := h.vis
  exact ne_of e e2 (by intro z; cases z)
theorem CellAt.cu {C : Addr} {H : Hp} {c v u : Addr} {s : Ux07.St} (h : CellAt C H c v u s) : c ≠ u := by
  obtain ⟨dx, e⟩ := h.obj
  exact ne_of e h.tur (by intro z; cases z)
theorem CellAt.same {C : Addr} {H H' : Hp} {c v u : Addr} {s : Ux07.St} (h : CellAt C H c v u s) (k : Same H H') : CellAt C H' c v u s := by
  obtain ⟨dx, e⟩ := h.obj
  obtain ⟨as, e2, e3⟩ := h.vis
  exact ⟨⟨dx, k _ _ e⟩, ⟨as, k _ _ e2, e3.keep fun b xs q => k _ _ q⟩, k _ _ h.tur, h.vu⟩
theorem cnt_at {s : Ux07.St} (w : WF s) : (tv (Ux07.now s).turns)[1]? = some (.int ((Ux07.now s).count : Nat)) := by
  have f := w.fit
  have h2 := w.n2
  rw [tv_at (Nat.le_refl 1) (by rw [f.len]; omega)]
  show some (V.int (((Ux07.now s).turns.getD 0 0 : Nat) : Int)) = _
  rw [f.cnt]

/-! ### the promises of the methods that only read -/
def spHas (C : Addr) : Sp := fun vs H Q _ => ∃ (c v u : Addr) (s : Ux07.St) (z : Int), vs = [.ref c, .int z] ∧ CellAt C H c v u s ∧ Q (.bl (decide (1 ≤ z ∧ z ≤ (s.rule.n : Int)))) H
def spCounted (C : Addr) : Sp := fun vs H Q _ => ∃ (c v u : Addr) (s : Ux07.St), vs = [.ref c] ∧ CellAt C H c v u s ∧ WF s ∧ Q (.int ((Ux07.now s).count : Nat)) H
def spSaid (C : Addr) : Sp := fun vs H Q _ => ∃ (c v u : Addr) (s : Ux07.St), vs = [.ref c] ∧ CellAt C H c v u s ∧ WF s ∧ Q (.bl (Ux07.over s)) H
def spWould (C : Addr) : Sp := fun vs H Q _ => ∃ (c v u : Addr) (s : Ux07.St) (p : Nat), vs = [.ref c, .int p] ∧ CellAt C H c v u s ∧ WF s ∧ 1 ≤ p ∧ p ≤ s.rule.n ∧ Q (.bl (wt s.rule (Ux07.now s) p)) H
section
variable {P : Program} {w : World} {K : PySem.W.Frag} {mg : Str → Option Value} {base : Heap}
theorem ok_has (p : Prg K mg) : FnOk P w K mg base CX0 1 p.fHas p.dHas PHas (spHas p.C) := by
  refine p.FHas.ok scHas (fun vs H Q E h => ?_) (fun cdv A outer s H vs Q E hr h => ?_)
  · obtain ⟨c, v, u, s, z, rfl, _⟩ := h
    rfl
  · obtain ⟨c, v, u, s, z, rfl, hc, k⟩ := h
    obtain ⟨dx, ho⟩ := hc.obj
    refine ⟨_, pss_one (ps_ret (pe_and (pe_cmp (pc_ge (pv 1) pe_int)) (pe_one (pe_cmp (pc_le (pv 1) (pe_fld (pv 0) rfl)))))), ?_⟩
    refine ⟨_, rfl, _, _, rfl, rfl, _, rfl, ite2 (fun h1 => ?_) (fun h1 => ?_)⟩
    · refine ⟨_, rfl, _, rfl, c, p.C, dx, _, _, rfl, ho, p.cl, p.a_people, rfl, _, _, rfl, rfl, ?_⟩
      have e : decide (1 ≤ z ∧ z ≤ (s.rule.n : Int)) = decide (z ≤ (s.rule.n : Int)) := decide_eq_decide.mpr ⟨fun q => q.2, fun q => ⟨of_decide_eq_true h1, q⟩⟩
      rw [e] at k
      exact k
    · have e : decide (1 ≤ z ∧ z ≤ (s.rule.n : Int)) = false := decide_eq_false fun q => h1 (decide_eq_true q.1)
      rw [e] at k
      exact k
theorem ok_counted (p : Prg K mg) : FnOk P w K mg base CX0 1 p.fCounted p.dCounted PCounted (spCounted p.C) := by
  refine p.FCounted.ok scCounted (fun vs H Q E h => ?_) (fun cdv A outer s H vs Q E hr h => ?_)
  · obtain ⟨c, v, u, s, rfl, _⟩ := h
    rfl
  · obtain ⟨c, v, u, s, rfl, hc, wf, k⟩ := h
    obtain ⟨dx, ho⟩ := hc.obj
    refine ⟨_, pss_one (ps_ret (pe_ix ix_list (pe_fld (pv 0) rfl) (pe_glob (v := .int 1) rfl p.c_COUNTER ⟨_, rfl⟩) (fun _ _ => rfl))), ?_⟩
    exact ⟨_, rfl, c, p.C, dx, _, _, rfl, ho, p.cl, p.a_turns, rfl, u, _, _, _, rfl, rfl, SqL.of hc.tur, atI_nat (j := 1) (cnt_at wf), k⟩
theorem ok_said (p : Prg K mg) : FnOk P w K mg base CX0 2 p.fSaid p.dSaid PSaid (spSaid p.C) := by
  refine p.FSaid.ok scSaid (fun vs H Q E h => ?_) (fun cdv A outer s H vs Q E hr h => ?_)
  · obtain ⟨c, v, u, s, rfl, _⟩ := h
    rfl
  · obtain ⟨c, v, u, s, rfl, hc, wf, k⟩ := h
    obtain ⟨dx, ho⟩ := hc.obj
    refine ⟨_, pss_one (ps_ret (pe_cmp (pc_eqI (pe_meth0 (pv 0) p.cl p.mCounted (ok_counted p) hr (bCounted p) .nil pass0) (pe_fld (pv 0) rfl)))), ?_⟩
    refine ⟨_, rfl, c, dx, _, rfl, ho, rfl, c, v, u, s, rfl, hc, wf, _, rfl, c, p.C, dx, _, _, rfl, ho, p.cl, p.a_goal, rfl, _, _, rfl, rfl, ?_⟩
    have e : decide (((Ux07.now s).count : Int) = (s.rule.c : Int)) = Ux07.over s := by
      rw [wf.over_iff]
      exact decide_eq_decide.mpr ⟨fun q => Int.ofNat_inj.mp q, fun q => Int.ofNat_inj.mpr q⟩
    rw [← e] at k
    exact k
theorem ok_would (p : Prg K mg) : FnOk P w K mg base CX0 1 p.fWould p.dWould PWould (spWould p.C) := by
  refine p.FWould.ok scWould (fun vs H Q E h => ?_) (fun cdv A outer s H vs Q E hr h => ?_)
  · obtain ⟨c, v, u, s, q, rfl, _⟩ := h
    rfl
  · obtain ⟨c, v, u, s, q, rfl, hc, wf, h1, h2, k⟩ := h
    obtain ⟨dx, ho⟩ := hc.obj
    refine ⟨_, pss_cons (ps_if (pt_cmp (pc_eqI (pv 1) (pe_glob (v := .int 1) rfl p.c_COUNTER ⟨_, rfl⟩))) (pss_one (ps_ret (pe_cmp (pc_eqI (pe_fld (pv 0) rfl) pe_int)))) pss_nil)
      (pss_one (ps_ret (pe_and (pe_cmp (pc_eqI (pe_fld (pv 0) rfl) pe_int)) (pe_one (pe_cmp (pc_lt (pe_ix ix_list (pe_fld (pv 0) rfl) (pv 1) (fun _ _ => rfl)) (pe_fld (pv 0) rfl))))))), ?_⟩
    refine ⟨_, rfl, _, _, rfl, rfl, _, rfl, ite2 (fun e1 => ?_) (fun e1 => ?_)⟩
    · refine ⟨_, rfl, c, p.C, dx, _, _, rfl, ho, p.cl, p.a_lamp, rfl, _, _, rfl, rfl, ?_⟩
      have hq : q = 1 := by have := of_decide_eq_true e1; omega
      have e : wt s.rule (Ux07.now s) q = decide (fl (Ux07.now s).lamp = 1) := by
        rw [fl_one]
        unfold wt
        rw [if_pos hq]
      rw [e] at k
      exact k
    · have hq : ¬ q = 1 := fun z => e1 (decide_eq_true (by rw [z]; rfl))
      have e : wt s.rule (Ux07.now s) q = (!(Ux07.now s).lamp && decide ((Ux07.now s).turns.getD (q - 1) 0 < s.rule.t)) := by
        unfold wt
        rw [if_neg hq]
      rw [e] at k
      refine ⟨_, rfl, c, p.C, dx, _, _, rfl, ho, p.cl, p.a_lamp, rfl, _, _, rfl, rfl, _, rfl, ite2 (fun e2 => ?_) (fun e2 => ?_)⟩
      · have hl : (Ux07.now s).lamp = false := by
          have z : decide (fl (Ux07.now s).lamp = 0) = true := e2
          rw [fl_zero] at z
          simpa using z
        rw [hl] at k
        refine ⟨_, rfl, c, p.C, dx, _, _, rfl, ho, p.cl, p.a_turns, rfl, _, rfl, u, _, _, _, rfl, rfl, SqL.of hc.tur, atI_nat (tv_at h1 (by rw [wf.fit.len]; exact h2)), _, rfl, c, p.C, dx, _, _, rfl, ho, p.cl, p.a_times, rfl, _, _, rfl, rfl, ?_⟩
        have e3 : decide ((((Ux07.now s).turns.getD (q - 1) 0 : Nat) : Int) < (s.rule.t : Int)) = (!false && decide ((Ux07.now s).turns.getD (q - 1) 0 < s.rule.t)) :=
          decide_eq_decide.mpr ⟨fun z => Int.ofNat_lt.mp z, fun z => Int.ofNat_lt.mpr z⟩
        rw [← e3] at k
        exact k
      · have hl : (Ux07.now s).lamp = true := by
          have z : ¬ decide (fl (Ux07.now s).lamp = 0) = true := e2
          rw [fl_zero] at z
          simpa using z
        rw [hl] at k
        exact k
end
end LP
end

section
set_option Elab.async false
set_option linter.all false
set_option maxRecDepth 100000
set_option Elab.async false
set_option linter.all false
set_option maxRecDepth 100000
namespace LP
open PySem PySem.Spec PyProof.Rows L2 LM
/-- xs[i] of a list, by values: what xs[i] += k reads -/
theorem get_list {X : Cx} : PGet X (fun x y H Q => ∃ p xs j v, x = .ref p ∧ y = .int ((j : Nat) : Int) ∧ SqL X.K H p xs ∧ xs[j]? = some v ∧ Q v H) := by
  intro pins s σ H o i ov iv Q I ro ri h
  obtain ⟨p, xs, j, z, rfl, rfl, hq, he, q⟩ := h
  cases ro
  obtain ⟨t, rfl⟩ := ri
  obtain ⟨its, r, pl, hz⟩ := I.list hq
  obtain ⟨w, ew, rw'⟩ := r.get he
  have hl := r.length
  have hn := line63
  have hj : j < xs.length := (List.getElem?_eq_some_iff.mp he).1
  exact wpAny_getItem_list pl.isList (Int.natCast_nonneg j) (by omega) (by rw [Int.toNat_natCast]; simpa using ew) ⟨z, H, I, rw', q⟩

theorem ixN_nat {n j : Nat} (h : j < n) : ixN n (j : Int) = some j := by
  unfold ixN
  rw [if_pos (by omega)]
  first | rfl | (rw [if_pos (by omega)]; simp) | simp [h]

theorem visit_end {C c v u a dx : Addr} {H H2 : Hp} {s s' : Ux07.St} {as : List Addr} {q : Nat} {b : Bool} (hr : s'.rule = s.rule) (hv : LM.vis s'.rule (Ux07.first s'.rule) s'.calls = LM.vis s.rule (Ux07.first s.rule) s.calls ++ [(q, b)])
    (o2 : H2 c = some (.ins C dx (cf s.rule.n s.rule.t s.rule.c (fl s.rule.known) (fl (Ux07.now s').lamp) v u))) (t2 : H2 u = some (.lst (tv (Ux07.now s').turns))) (v2 : H2 v = some (.lst (as.map V.ref)))
    (w2 : VisAt H2 as (LM.vis s.rule (Ux07.first s.rule) s.calls)) (vu : v ≠ u) (ha : H2 a = Option.none) (k2 : Keep H H2 c v u) :
    CellAt C (upd (upd H2 a (.tup [.int (q : Nat), .bl b])) v (.lst (as.map V.ref ++ [.ref a]))) c v u s' ∧ Keep H (upd (upd H2 a (.tup [.int (q : Nat), .bl b])) v (.lst (as.map V.ref ++ [.ref a]))) c v u := by
  have cv : c ≠ v := ne_of o2 v2 (by intro z; cases z)
  have ca : c ≠ a := ne_of_none o2 ha
  have ua : u ≠ a := ne_of_none t2 ha
  have va : v ≠ a := ne_of_none v2 ha
  have tups : ∀ b' xs, H2 b' = some (.tup xs) → (upd (upd H2 a (.tup [.int (q : Nat), .bl b])) v (.lst (as.map V.ref ++ [.ref a]))) b' = some (.tup xs) := fun b' xs e => by
    rw [upd_ne (ne_of e v2 (by intro z; cases z)), upd_ne (ne_of_none e ha)]
    exact e
  refine ⟨⟨⟨dx, ?_⟩, ⟨as ++ [a], ?_, ?_⟩, ?_, vu⟩, fun b' o e h1 h2 h3 => ?_⟩
  · rw [upd_ne cv, upd_ne ca, hr]
    exact o2
  · rw [upd_same, List.map_append]
    rfl
  · rw [hv]
    exact (w2.keep tups).snoc (by rw [upd_ne (Ne.symm va), upd_same])
  · rw [upd_ne (Ne.symm vu), upd_ne ua]
    exact t2
  · have e2 := k2 b' o e h1 h2 h3
    rw [upd_ne h2, upd_ne (ne_of_none e2 ha)]
    exact e2

def spVisit (C : Addr) : Sp := fun vs H Q _ => ∃ (c v u : Addr) (s : Ux07.St) (q : Nat), vs = [.ref c, .int q] ∧ CellAt C H c v u s ∧ WF s ∧ 1 ≤ q ∧ q ≤ s.rule.n ∧ s.calls.length < sizeLine ∧
  ∀ H' : Hp, CellAt C H' c v u { s with calls := s.calls ++ [q] } → Keep H H' c v u → Q .non H'
def spUndo (C : Addr) : Sp := fun vs H Q _ => ∃ (c v u : Addr) (r : Ux07.Rule) (l : List Nat) (q : Nat), vs = [.ref c] ∧ CellAt C H c v u ⟨r, l ++ [q]⟩ ∧ WF ⟨r, l ++ [q]⟩ ∧
  ∀ H' : Hp, CellAt C H' c v u ⟨r, l⟩ → Keep H H' c v u → Q (.int (q : Nat)) H'
section
variable {P : Program} {w : World} {K : PySem.W.Frag} {mg : Str → Option Value} {base : Heap}
theorem ok_visit (p : Prg K mg) : FnOk P w K mg base CX0 2 p.fVisit p.dVisit PVisit (spVisit p.C) := by
  refine p.FVisit.ok scVisit (fun vs H Q E h => ?_) (fun cdv A outer s H vs Q E hr h => ?_)
  · obtain ⟨c, v, u, s, q, rfl, _⟩ := h
    rfl
  · obtain ⟨c, v, u, s, q, rfl, hc, wf, h1, h2, hl, k⟩ := h
    obtain ⟨dx, ho⟩ := hc.obj
    obtain ⟨as, hv, hw⟩ := hc.vis
    have hu := hc.tur
    have cu := hc.cu
    have cv := hc.cv
    have hq : q ≤ (Ux07.now s).turns.length := by rw [wf.fit.len]; exact h2
    have hal : (as.map V.ref).length < sizeLine := by rw [List.length_map, hw.len, vis_len]; exact hl
    have hvs := vis_snoc s.rule (Ux07.first s.rule) s.calls q
    have hnow : Ux07.now { s with calls := s.calls ++ [q] } = Ux07.called s.rule (Ux07.now s) q := behind_snoc s.rule s.calls q
    refine ⟨_, pss_cons (ps_set (i := 2) scVisit.nd rfl (Or.inl rfl) (pe_meth (pv 0) p.cl p.mWould (ok_would p) hr (bWould p) .nil pass0 (pa_cons (pv 1) pa_nil)))
      (pss_cons (ps_if (pt_val (pv 2)) (pss_cons (ps_fld (pv 0) (pe_op op_sub pe_int (pe_fld (pv 0) rfl)) rfl) (pss_one (ps_augS (pe_fld (pv 0) rfl) (pv 1) get_list pe_int ip_add set_list))) pss_nil)
      (pss_one (ps_expr (pe_bm PySem.F.plainAttrs_list PySem.F.slot_list_append PySem.F.type_list_append mt_append (pe_fld (pv 0) rfl) (pa_cons (pe_tup (pa_cons (pv 1) (pa_cons (pv 2) pa_nil))) pa_nil))))), ?_⟩
    refine ⟨_, rfl, c, dx, _, rfl, ho, rfl, _, rfl, c, v, u, s, q, rfl, hc, wf, h1, h2, ?_⟩
    cases hwt : wt s.rule (Ux07.now s) q with
    | false =>
      have e1 : Ux07.now { s with calls := s.calls ++ [q] } = Ux07.now s := by rw [hnow, called_no hwt]
      refine ⟨_, rfl, _, rfl, iteF ?_⟩
      refine ⟨_, rfl, c, p.C, dx, _, _, rfl, ho, p.cl, p.a_visits, rfl, .inl ⟨rfl, _, SqL.of hv⟩, _, rfl, _, rfl, (by show 2 ≤ sizeLine; decide), fun a ha => ?_⟩
      have hwt2 : wt s.rule (s.calls.foldl (Ux07.called s.rule) (Ux07.first s.rule)) q = false := hwt
      rw [hwt2] at hvs
      have z := visit_end (C := p.C) (c := c) (u := u) (a := a) (H := H) (s := s) (s' := { s with calls := s.calls ++ [q] }) (q := q) (b := false) rfl hvs (by rw [e1]; exact ho) (by rw [e1]; exact hu) hv hw hc.vu ha (Keep.refl H c v u)
      refine ⟨v, _, _, rfl, rfl, (by rw [upd_ne (ne_of_none hv ha)]; exact hv), hal, ?_⟩
      exact k _ z.1 z.2
    | true =>
      have hl2 := called_lamp hwt
      have ht2 := called_turns hwt
      refine ⟨_, rfl, _, rfl, iteT ?_⟩
      refine ⟨_, rfl, c, p.C, dx, _, _, rfl, ho, p.cl, p.a_lamp, rfl, _, _, rfl, rfl, _, rfl, c, p.C, dx, _, rfl, ho, p.cl, p.a_lamp, (by show 7 < 1000; decide), ?_⟩
      have o1 : (upd H c (.ins p.C dx (putF "lamp" (.int (1 - fl (Ux07.now s).lamp)) (cf s.rule.n s.rule.t s.rule.c (fl s.rule.known) (fl (Ux07.now s).lamp) v u)))) c = some (.ins p.C dx (cf s.rule.n s.rule.t s.rule.c (fl s.rule.known) (1 - fl (Ux07.now s).lamp) v u)) := upd_same
      generalize hH1 : upd H c (.ins p.C dx (putF "lamp" (.int (1 - fl (Ux07.now s).lamp)) (cf s.rule.n s.rule.t s.rule.c (fl s.rule.known) (fl (Ux07.now s).lamp) v u))) = H1 at o1
      have k1 : ∀ b o, H b = some o → b ≠ c → H1 b = some o := fun b o e hb => by rw [← hH1, upd_ne hb]; exact e
      have hu1 := k1 _ _ hu (Ne.symm cu)
      have hv1 := k1 _ _ hv (Ne.symm cv)
      have hat := tv_at h1 hq
      refine ⟨_, rfl, c, p.C, dx, _, _, rfl, o1, p.cl, p.a_turns, rfl, _, rfl, u, _, q, _, rfl, rfl, SqL.of hu1, hat, _, _, rfl, rfl, u, _, _, q, rfl, rfl, hu1, ixN_nat (by unfold tv; rw [List.length_cons, List.length_map]; omega), ?_⟩
      have e6 : (tv (Ux07.now s).turns).set q (V.int ((((Ux07.now s).turns.getD (q - 1) 0 : Nat) : Int) + 1)) = tv ((Ux07.now s).turns.set (q - 1) ((Ux07.now s).turns.getD (q - 1) 0 + 1)) := tv_set h1
      dsimp only
      rw [e6]
      have o2 : (upd H1 u (.lst (tv ((Ux07.now s).turns.set (q - 1) ((Ux07.now s).turns.getD (q - 1) 0 + 1))))) c = some (.ins p.C dx (cf s.rule.n s.rule.t s.rule.c (fl s.rule.known) (1 - fl (Ux07.now s).lamp) v u)) := by rw [upd_ne cu]; exact o1
      have v2 : (upd H1 u (.lst (tv ((Ux07.now s).turns.set (q - 1) ((Ux07.now s).turns.getD (q - 1) 0 + 1))))) v = some (.lst (as.map V.ref)) := by rw [upd_ne hc.vu]; exact hv1
      have u2 : (upd H1 u (.lst (tv ((Ux07.now s).turns.set (q - 1) ((Ux07.now s).turns.getD (q - 1) 0 + 1))))) u = some (.lst (tv ((Ux07.now s).turns.set (q - 1) ((Ux07.now s).turns.getD (q - 1) 0 + 1)))) := upd_same
      have k2 : ∀ b o, H1 b = some o → b ≠ u → (upd H1 u (.lst (tv ((Ux07.now s).turns.set (q - 1) ((Ux07.now s).turns.getD (q - 1) 0 + 1))))) b = some o := fun b o e hb => by rw [upd_ne hb]; exact e
      generalize upd H1 u (.lst (tv ((Ux07.now s).turns.set (q - 1) ((Ux07.now s).turns.getD (q - 1) 0 + 1)))) = H2 at o2 v2 u2 k2 ⊢
      refine ⟨_, rfl, c, p.C, dx, _, _, rfl, o2, p.cl, p.a_visits, rfl, .inl ⟨rfl, _, SqL.of v2⟩, _, rfl, _, rfl, (by show 2 ≤ sizeLine; decide), fun a ha => ?_⟩
      have hwt2 : wt s.rule (s.calls.foldl (Ux07.called s.rule) (Ux07.first s.rule)) q = true := hwt
      rw [hwt2] at hvs
      have z := visit_end (C := p.C) (c := c) (u := u) (a := a) (H := H) (s := s) (s' := { s with calls := s.calls ++ [q] }) (q := q) (b := true) rfl hvs (by rw [hnow, hl2, ← fl_not]; exact o2) (by rw [hnow, ht2]; exact u2) v2
        (hw.keep fun b xs e => k2 _ _ (k1 _ _ e (ne_of e ho (by intro z; cases z))) (ne_of e hu (by intro z; cases z))) hc.vu ha (fun b o e n1 n2 n3 => k2 _ _ (k1 _ _ e n1) n3)
      refine ⟨v, _, _, rfl, rfl, (by rw [upd_ne (ne_of_none v2 ha)]; exact v2), hal, ?_⟩
      exact k _ z.1 z.2
end
end LP
end

section
set_option Elab.async false
set_option linter.all false
set_option maxRecDepth 100000
set_option Elab.async false
set_option linter.all false
set_option maxRecDepth 100000
namespace LP
open PySem PySem.Spec PyProof.Rows L2 LM
section
variable {P : Program} {w : World} {K : PySem.W.Frag} {mg : Str → Option Value} {base : Heap}
theorem last_of {as : List Addr} {a : Addr} : ((as ++ [a]).map V.ref)[((as ++ [a]).map V.ref).length - 1]? = some (V.ref a) := by
  rw [List.map_append, List.length_append, List.length_map]
  show (as.map V.ref ++ [V.ref a])[as.length + 1 - 1]? = _
  rw [Nat.add_sub_cancel, List.getElem?_append_right (by rw [List.length_map]; exact Nat.le_refl _), List.length_map, Nat.sub_self]
  rfl
theorem drop_of {as : List Addr} {a : Addr} : ((as ++ [a]).map V.ref).dropLast = as.map V.ref := by
  rw [List.map_append]
  exact List.dropLast_concat
theorem ok_undo (p : Prg K mg) : FnOk P w K mg base CX0 1 p.fUndo p.dUndo PUndo (spUndo p.C) := by
  refine p.FUndo.ok scUndo (fun vs H Q E h => ?_) (fun cdv A outer s H vs Q E hr h => ?_)
  · obtain ⟨c, v, u, r, l, q, rfl, _⟩ := h
    rfl
  · obtain ⟨c, v, u, r, l, q, rfl, hc, wf, k⟩ := h
    obtain ⟨dx, ho⟩ := hc.obj
    obtain ⟨as0, hv, hw⟩ := hc.vis
    have hu := hc.tur
    have cu := hc.cu
    have cv := hc.cv
    have hnow : Ux07.now ⟨r, l ++ [q]⟩ = Ux07.called r (Ux07.now ⟨r, l⟩) q := behind_snoc r l q
    have hvs : LM.vis r (Ux07.first r) (l ++ [q]) = LM.vis r (Ux07.first r) l ++ [(q, wt r (Ux07.now ⟨r, l⟩) q)] := vis_snoc r (Ux07.first r) l q
    have wf0 : WF ⟨r, l⟩ := wf.back
    have hps := wf.ps q (List.mem_append_right _ (List.mem_singleton.mpr rfl))
    have h1 : 1 ≤ q := hps.1
    have h2 : q ≤ r.n := hps.2
    have hw1 : VisAt H as0 (LM.vis r (Ux07.first r) l ++ [(q, wt r (Ux07.now ⟨r, l⟩) q)]) := by rw [← hvs]; exact hw
    obtain ⟨as, a, rfl, hw0, hta⟩ := hw1.last
    refine ⟨_, pss_cons (ps_set (i := 1) scUndo.nd rfl (Or.inl rfl) (pe_bm0 PySem.F.plainAttrs_list PySem.F.slot_list_pop PySem.F.type_list_pop mt_pop (pe_fld (pv 0) rfl)))
      (pss_cons (ps_set (i := 2) scUndo.nd rfl (Or.inl rfl) (pe_ix ix_tup (pv 1) pe_int (fun _ _ => rfl)))
      (pss_cons (ps_if (pt_val (pe_ix ix_tup (pv 1) pe_int (fun _ _ => rfl))) (pss_cons (ps_fld (pv 0) (pe_op op_sub pe_int (pe_fld (pv 0) rfl)) rfl) (pss_one (ps_augS (pe_fld (pv 0) rfl) (pv 2) get_list pe_int ip_sub set_list))) pss_nil)
      (pss_one (ps_ret (pv 2))))), ?_⟩
    refine ⟨_, rfl, c, p.C, dx, _, _, rfl, ho, p.cl, p.a_visits, rfl, .inl ⟨rfl, _, SqL.of hv⟩, v, _, _, rfl, rfl, hv, last_of, ?_⟩
    rw [drop_of]
    have av : a ≠ v := ne_of hta hv (by intro z; cases z)
    have o1 : (upd H v (.lst (as.map V.ref))) c = some (.ins p.C dx (cf r.n r.t r.c (fl r.known) (fl (Ux07.now ⟨r, l ++ [q]⟩).lamp) v u)) := by rw [upd_ne cv]; exact ho
    have a1 : (upd H v (.lst (as.map V.ref))) a = some (.tup [.int (q : Nat), .bl (wt r (Ux07.now ⟨r, l⟩) q)]) := by rw [upd_ne av]; exact hta
    have u1 : (upd H v (.lst (as.map V.ref))) u = some (.lst (tv (Ux07.now ⟨r, l ++ [q]⟩).turns)) := by rw [upd_ne (Ne.symm hc.vu)]; exact hu
    have v1 : (upd H v (.lst (as.map V.ref))) v = some (.lst (as.map V.ref)) := upd_same
    have k1 : ∀ b o, H b = some o → b ≠ v → (upd H v (.lst (as.map V.ref))) b = some o := fun b o e hb => by rw [upd_ne hb]; exact e
    have t1 : VisAt (upd H v (.lst (as.map V.ref))) as (LM.vis r (Ux07.first r) l) := hw0.keep fun b xs e => k1 _ _ e (ne_of e hv (by intro z; cases z))
    generalize upd H v (.lst (as.map V.ref)) = H1 at o1 a1 u1 v1 k1 t1 ⊢
    refine ⟨_, rfl, a, _, _, _, rfl, rfl, SqT.of a1, atI_nat (j := 0) rfl, ?_⟩
    refine ⟨_, rfl, a, _, _, _, rfl, rfl, SqT.of a1, atI_nat (j := 1) rfl, _, rfl, ?_⟩
    cases hwt : wt r (Ux07.now ⟨r, l⟩) q with
    | false =>
      have e1 : Ux07.now ⟨r, l ++ [q]⟩ = Ux07.now ⟨r, l⟩ := by rw [hnow, called_no hwt]
      refine iteF ⟨_, rfl, ?_⟩
      exact k _ ⟨⟨dx, by rw [← e1]; exact o1⟩, ⟨as, v1, t1⟩, by rw [← e1]; exact u1, hc.vu⟩ fun b o e n1 n2 n3 => k1 _ _ e n2
    | true =>
      have hl2 := called_lamp hwt
      have ht2 := called_turns hwt
      have hqn : q ≤ (Ux07.now ⟨r, l⟩).turns.length := by rw [wf0.fit.len]; exact h2
      have hqm : q ≤ (Ux07.now ⟨r, l ++ [q]⟩).turns.length := by rw [wf.fit.len]; exact h2
      refine iteT ?_
      refine ⟨_, rfl, c, p.C, dx, _, _, rfl, o1, p.cl, p.a_lamp, rfl, _, _, rfl, rfl, _, rfl, c, p.C, dx, _, rfl, o1, p.cl, p.a_lamp, (by show 7 < 1000; decide), ?_⟩
      have o2 : (upd H1 c (.ins p.C dx (putF "lamp" (.int (1 - fl (Ux07.now ⟨r, l ++ [q]⟩).lamp)) (cf r.n r.t r.c (fl r.known) (fl (Ux07.now ⟨r, l ++ [q]⟩).lamp) v u)))) c = some (.ins p.C dx (cf r.n r.t r.c (fl r.known) (1 - fl (Ux07.now ⟨r, l ++ [q]⟩).lamp) v u)) := upd_same
      have k2 : ∀ b o, H1 b = some o → b ≠ c → (upd H1 c (.ins p.C dx (putF "lamp" (.int (1 - fl (Ux07.now ⟨r, l ++ [q]⟩).lamp)) (cf r.n r.t r.c (fl r.known) (fl (Ux07.now ⟨r, l ++ [q]⟩).lamp) v u)))) b = some o := fun b o e hb => by rw [upd_ne hb]; exact e
      generalize upd H1 c (.ins p.C dx (putF "lamp" (.int (1 - fl (Ux07.now ⟨r, l ++ [q]⟩).lamp)) (cf r.n r.t r.c (fl r.known) (fl (Ux07.now ⟨r, l ++ [q]⟩).lamp) v u))) = H2 at o2 k2 ⊢
      have u2 := k2 _ _ u1 (Ne.symm cu)
      have v2 := k2 _ _ v1 (Ne.symm cv)
      refine ⟨_, rfl, c, p.C, dx, _, _, rfl, o2, p.cl, p.a_turns, rfl, _, rfl, u, _, q, _, rfl, rfl, SqL.of u2, tv_at h1 hqm, _, _, rfl, rfl, u, _, _, q, rfl, rfl, u2, ixN_nat (by unfold tv; rw [List.length_cons, List.length_map]; omega), ?_⟩
      have e5 : (((Ux07.now ⟨r, l ++ [q]⟩).turns.getD (q - 1) 0 : Nat) : Int) - 1 = (((Ux07.now ⟨r, l ++ [q]⟩).turns.getD (q - 1) 0 - 1 : Nat) : Int) := by
        have z : 1 ≤ (Ux07.now ⟨r, l ++ [q]⟩).turns.getD (q - 1) 0 := by
          rw [hnow, ht2]
          unfold up
          rw [List.getD_eq_getElem?_getD (l := (Ux07.now ⟨r, l⟩).turns.set _ _), List.getElem?_set_self (by omega)]
          exact Nat.le_add_left _ _
        omega
      have e6 : (tv (Ux07.now ⟨r, l ++ [q]⟩).turns).set q (V.int ((((Ux07.now ⟨r, l ++ [q]⟩).turns.getD (q - 1) 0 : Nat) : Int) - 1)) = tv (Ux07.now ⟨r, l⟩).turns := by
        rw [e5, tv_set h1, hnow, ht2, undo_turns h1 hqn]
      dsimp only
      rw [e6]
      refine ⟨_, rfl, ?_⟩
      refine k _ ⟨⟨dx, ?_⟩, ⟨as, ?_, ?_⟩, upd_same, hc.vu⟩ fun b o e n1 n2 n3 => ?_
      · rw [upd_ne cu]
        have e7 : 1 - fl (Ux07.now ⟨r, l ++ [q]⟩).lamp = fl (Ux07.now ⟨r, l⟩).lamp := by rw [hnow, hl2, fl_not, Bool.not_not]
        rw [e7] at o2
        exact o2
      · rw [upd_ne hc.vu]
        exact v2
      · exact t1.keep fun b xs e => by
          rw [upd_ne (ne_of e u1 (by intro z; cases z))]
          exact k2 _ _ e (ne_of e o1 (by intro z; cases z))
      · rw [upd_ne n3]
        exact k2 _ _ (k1 _ _ e n2) n1

/-- no attribute yet, or those of a cell -/
def Blank (fs : List (Str × V)) : Prop := fs = [] ∨ ∃ n t g k l v u, fs = cf n t g k l v u
def spBegin (C : Addr) : Sp := fun vs H Q _ => ∃ (c dx : Addr) (fs : List (Str × V)) (n t g : Nat) (kb lb : Bool), vs = [.ref c, .int n, .int t, .int g, .int (fl kb), .int (fl lb)] ∧ H c = some (.ins C dx fs) ∧ Blank fs ∧ n ≤ 20 ∧
  ∀ (H' : Hp) (v u : Addr), CellAt C H' c v u ⟨⟨n, t, g, kb, lb⟩, []⟩ → (∀ b o, H b = some o → b ≠ c → H' b = some o ∧ b ≠ v ∧ b ≠ u) → Q .non H'
theorem rep_zero (n : Nat) : (List.replicate ((n : Int) + 1).toNat [V.int 0]).flatten = tv (List.replicate n 0) := by
  have e : ((n : Int) + 1).toNat = n + 1 := by omega
  rw [e, List.replicate_succ]
  show V.int 0 :: (List.replicate n [V.int 0]).flatten = V.int 0 :: _
  congr 1
  induction n with
  | zero => rfl
  | succ n ih =>
    rw [List.replicate_succ, List.replicate_succ, List.flatten_cons, ih (by omega)]
    rfl
theorem ok_begin (p : Prg K mg) : FnOk P w K mg base CX0 1 p.fBegin p.dBegin PBegin (spBegin p.C) := by
  refine p.FBegin.ok scBegin (fun vs H Q E h => ?_) (fun cdv A outer s H vs Q E hr h => ?_)
  · obtain ⟨c, dx, fs, n, t, g, kb, lb, rfl, _⟩ := h
    rfl
  · obtain ⟨c, dx, fs, n, t, g, kb, lb, rfl, ho, hfs, hn, k⟩ := h
    refine ⟨_, pss_cons (ps_fld (pv 0) (pv 1) rfl) (pss_cons (ps_fld (pv 0) (pv 2) rfl) (pss_cons (ps_fld (pv 0) (pv 3) rfl) (pss_cons (ps_fld (pv 0) (pv 4) rfl) (pss_cons (ps_fld (pv 0) (pv 5) rfl)
      (pss_cons (ps_fld (pv 0) (pe_lst pa_nil) rfl) (pss_one (ps_fld (pv 0) (pe_op op_rep (pe_lst (pa_cons pe_int pa_nil)) (pe_op op_add (pv 1) pe_int)) rfl))))))), ?_⟩
    have hl : ∀ (f : Str) (y : V) (fs : List (Str × V)), (putF f y fs).length ≤ fs.length + 1 := fun f y fs => by
      induction fs with
      | nil => exact Nat.le_refl _
      | cons z r ih =>
        show (if z.1 = f then (z.1, y) :: r else (z.1, z.2) :: putF f y r).length ≤ _
        split
        · exact Nat.le_succ _
        · exact Nat.succ_le_succ ih
    have h0 : fs.length ≤ 7 := by
      rcases hfs with rfl | ⟨_, _, _, _, _, _, _, rfl⟩
      · exact Nat.zero_le _
      · exact Nat.le_refl _
    have hf : ∀ (v u : Addr), putF "turns" (.ref u) (putF "visits" (.ref v) (putF "lamp" (.int (fl lb)) (putF "known" (.int (fl kb)) (putF "goal" (.int g) (putF "times" (.int t) (putF "people" (.int n) fs)))))) = cf n t g (fl kb) (fl lb) v u := fun v u => by
      rcases hfs with rfl | ⟨_, _, _, _, _, _, _, rfl⟩ <;> rfl
    have g1 := hl "people" (.int n) fs
    have g2 := hl "times" (.int t) (putF "people" (.int n) fs)
    have g3 := hl "goal" (.int g) (putF "times" (.int t) (putF "people" (.int n) fs))
    have g4 := hl "known" (.int (fl kb)) (putF "goal" (.int g) (putF "times" (.int t) (putF "people" (.int n) fs)))
    have g5 := hl "lamp" (.int (fl lb)) (putF "known" (.int (fl kb)) (putF "goal" (.int g) (putF "times" (.int t) (putF "people" (.int n) fs))))
    refine ⟨_, rfl, _, rfl, c, p.C, dx, _, rfl, ho, p.cl, p.a_people, (by omega), ?_⟩
    refine ⟨_, rfl, _, rfl, c, p.C, dx, _, rfl, upd_same, p.cl, p.a_times, (by omega), ?_⟩
    refine ⟨_, rfl, _, rfl, c, p.C, dx, _, rfl, upd_same, p.cl, p.a_goal, (by omega), ?_⟩
    refine ⟨_, rfl, _, rfl, c, p.C, dx, _, rfl, upd_same, p.cl, p.a_known, (by omega), ?_⟩
    refine ⟨_, rfl, _, rfl, c, p.C, dx, _, rfl, upd_same, p.cl, p.a_lamp, (by omega), ?_⟩
    generalize hfs5 : putF "lamp" (.int (fl lb)) (putF "known" (.int (fl kb)) (putF "goal" (.int g) (putF "times" (.int t) (putF "people" (.int n) fs)))) = fs5 at hf g5 ⊢
    have k5 : ∀ (a1 a2 a3 a4 a5 : HO) b o, H b = some o → b ≠ c → (upd (upd (upd (upd (upd H c a1) c a2) c a3) c a4) c a5) b = some o := fun a1 a2 a3 a4 a5 b o e hb => by
      rw [upd_ne hb, upd_ne hb, upd_ne hb, upd_ne hb, upd_ne hb]
      exact e
    have g6 := hl "visits"
    obtain ⟨H5, o5, q5, goal⟩ : ∃ H5 : Hp, H5 c = some (.ins p.C dx fs5) ∧ (∀ b o, H b = some o → b ≠ c → H5 b = some o) ∧ H5 = upd (upd (upd (upd (upd H c (.ins p.C dx (putF "people" (.int n) fs))) c (.ins p.C dx (putF "times" (.int t) (putF "people" (.int n) fs)))) c
        (.ins p.C dx (putF "goal" (.int g) (putF "times" (.int t) (putF "people" (.int n) fs))))) c (.ins p.C dx (putF "known" (.int (fl kb)) (putF "goal" (.int g) (putF "times" (.int t) (putF "people" (.int n) fs)))))) c (.ins p.C dx fs5) :=
      ⟨_, upd_same, k5 _ _ _ _ _, rfl⟩
    rw [← goal]
    refine ⟨by show 0 ≤ sizeLine; decide, fun v hv => ?_⟩
    have cv : c ≠ v := ne_of_none o5 hv
    refine ⟨_, rfl, c, p.C, dx, fs5, rfl, (by rw [upd_ne cv]; exact o5), p.cl, p.a_visits, (by omega), ?_⟩
    have o6 : (upd (upd H5 v (.lst [])) c (.ins p.C dx (putF "visits" (.ref v) fs5))) c = some (.ins p.C dx (putF "visits" (.ref v) fs5)) := upd_same
    have v6 : (upd (upd H5 v (.lst [])) c (.ins p.C dx (putF "visits" (.ref v) fs5))) v = some (.lst []) := by rw [upd_ne (Ne.symm cv), upd_same]
    have q6 : ∀ b o, H b = some o → b ≠ c → (upd (upd H5 v (.lst [])) c (.ins p.C dx (putF "visits" (.ref v) fs5))) b = some o ∧ b ≠ v := fun b o e hb => by
      have e5 := q5 b o e hb
      have bv : b ≠ v := ne_of_none e5 hv
      rw [upd_ne hb, upd_ne bv]
      exact ⟨e5, bv⟩
    generalize upd (upd H5 v (.lst [])) c (.ins p.C dx (putF "visits" (.ref v) fs5)) = H6 at o6 v6 q6 ⊢
    refine ⟨by show 1 ≤ sizeLine; decide, fun a ha => ?_⟩
    have ca : c ≠ a := ne_of_none o6 ha
    have va : v ≠ a := ne_of_none v6 ha
    refine ⟨_, rfl, _, _, rfl, rfl, a, (n : Int) + 1, [.int 0], rfl, rfl, upd_same, by omega, by omega, ?_, fun u hu => ?_⟩
    · show 1 * ((n : Int) + 1).toNat ≤ sizeLine
      rw [sizeLine_eq]
      omega
    · rw [rep_zero]
      have cu : c ≠ u := ne_of_none (show (upd H6 a (.lst [.int 0])) c = some _ by rw [upd_ne ca]; exact o6) hu
      have vu : v ≠ u := ne_of_none (show (upd H6 a (.lst [.int 0])) v = some _ by rw [upd_ne va]; exact v6) hu
      have g7 := hl "visits" (.ref v) fs5
      refine ⟨_, rfl, c, p.C, dx, _, rfl, (by rw [upd_ne cu, upd_ne ca]; exact o6), p.cl, p.a_turns, (by omega), ?_⟩
      rw [hf v u]
      refine k _ v u ⟨⟨dx, upd_same⟩, ⟨[], ?_, VisAt.nil _⟩, ?_, vu⟩ fun b o e hb => ?_
      · rw [upd_ne (Ne.symm cv), upd_ne vu, upd_ne va]
        exact v6
      · rw [upd_ne (Ne.symm cu), upd_same]
        rfl
      · obtain ⟨e6, bv⟩ := q6 b o e hb
        have ba : b ≠ a := ne_of_none e6 ha
        have bu : b ≠ u := ne_of_none (show (upd H6 a (.lst [.int 0])) b = some _ by rw [upd_ne ba]; exact e6) hu
        rw [upd_ne hb, upd_ne bu, upd_ne ba]
        exact ⟨e6, bv, bu⟩
def spInit (C : Addr) : Sp := fun vs H Q _ => ∃ (c dx : Addr), vs = [.ref c] ∧ H c = some (.ins C dx []) ∧
  ∀ (H' : Hp) (v u : Addr), CellAt C H' c v u Ux07.init → (∀ b o, H b = some o → b ≠ c → H' b = some o ∧ b ≠ v ∧ b ≠ u) → Q .non H'
theorem ok_init (p : Prg K mg) : FnOk P w K mg base CX0 2 p.fInit p.dInit PInit (spInit p.C) := by
  refine p.FInit.ok scInit (fun vs H Q E h => ?_) (fun cdv A outer s H vs Q E hr h => ?_)
  · obtain ⟨c, dx, rfl, _⟩ := h
    rfl
  · obtain ⟨c, dx, rfl, ho, k⟩ := h
    refine ⟨_, pss_one (ps_expr (pe_meth (pv 0) p.cl p.mBegin (ok_begin p) hr (bBegin p) .nil pass0 (pa_cons pe_int (pa_cons pe_int (pa_cons pe_int (pa_cons pe_int (pa_cons pe_int pa_nil))))))), ?_⟩
    exact ⟨_, rfl, c, dx, _, rfl, ho, rfl, c, dx, [], 3, 1, 2, true, false, rfl, ho, .inl rfl, by decide, fun H' v u hc kp => k H' v u hc kp⟩
end
end LP
end

section
set_option Elab.async false
set_option linter.all false
set_option maxRecDepth 100000
set_option Elab.async false
set_option linter.all false
set_option maxRecDepth 100000
namespace LP
open PySem PySem.Spec PyProof.Rows L2 LM
/-- the cell behind some more calls -/
abbrev plus (s : Ux07.St) (l : List Nat) : Ux07.St := { s with calls := s.calls ++ l }
theorem plus_snoc (s : Ux07.St) (l : List Nat) (q : Nat) : plus (plus s l) [q] = plus s (l ++ [q]) := by
  show (⟨s.rule, s.calls ++ l ++ [q]⟩ : Ux07.St) = ⟨s.rule, s.calls ++ (l ++ [q])⟩
  rw [List.append_assoc]
abbrev rl (s : Ux07.St) (k : Nat) : List Nat := Ux07.callsOf s.rule (Ux07.now s) (Ux07.round s.rule k)
def spRound (C : Addr) : Sp := fun vs H Q _ => ∃ (c v u : Addr) (s : Ux07.St) (k : Nat), vs = [.ref c, .int k] ∧ CellAt C H c v u s ∧ WF s ∧ k ≤ 100 ∧ s.calls.length ≤ 1000000 ∧
  ∀ H' : Hp, CellAt C H' c v u (plus s (rl s k)) → Keep H H' c v u → Q (.int ((rl s k).length : Nat)) H'
section
variable {P : Program} {w : World} {K : PySem.W.Frag} {mg : Str → Option Value} {base : Heap}
theorem drop_at {α : Type} {l : List α} {i : Nat} {x : α} (h : l[i]? = some x) : l.drop i = x :: l.drop (i + 1) := by
  obtain ⟨hi, e⟩ := List.getElem?_eq_some_iff.mp h
  rw [List.drop_eq_getElem_cons hi, e]
theorem take_at {α : Type} {l : List α} {i : Nat} {x : α} (h : l[i]? = some x) : l.take (i + 1) = l.take i ++ [x] := by
  rw [List.take_add_one, h]
  rfl
/-- what holds ahead of the i-th step of the rounds -/
structure RInv (C : Addr) (H H' : Hp) (c v u : Addr) (s : Ux07.St) (k i : Nat) : Prop where
  at_ : CellAt C H' c v u (plus s ((Ux07.round s.rule k).take i))
  wf : WF (plus s ((Ux07.round s.rule k).take i))
  kp : Keep H H' c v u
  eq : rl s k = (Ux07.round s.rule k).take i ++ Ux07.callsOf s.rule (Ux07.now (plus s ((Ux07.round s.rule k).take i))) ((Ux07.round s.rule k).drop i)
theorem ok_round (p : Prg K mg) : FnOk P w K mg base CX0 3 p.fRound p.dRound PRound (spRound p.C) := by
  refine p.FRound.ok scRound (fun vs H Q E h => ?_) (fun cdv A outer s H vs Q E hr h => ?_)
  · obtain ⟨c, v, u, s, k, rfl, _⟩ := h
    rfl
  · obtain ⟨c, v, u, s, k, rfl, hc, wf, hk, hlen, kk⟩ := h
    obtain ⟨dx, ho⟩ := hc.obj
    obtain ⟨as, hv, hw⟩ := hc.vis
    have hal : (as.map V.ref).length = s.calls.length := by rw [List.length_map, hw.len, vis_len]
    have hn2 := wf.n2
    have hn20 := wf.n20
    have hprod : k * s.rule.n ≤ 2000 := Nat.le_trans (Nat.mul_le_mul hk hn20) (by decide)
    refine ⟨_, pss_cons (ps_set (i := 2) scRound.nd rfl (Or.inl rfl) (pe_callB call_len_seq (by rfl) p.n_len PySem.boot_len (pa_cons (pe_fld (pv 0) rfl) pa_nil)))
      (pss_cons (ps_for PassesOwn.never rfl (pi_range1 rfl p.n_range (pa_cons (pe_op op_mul (pv 1) (pe_fld (pv 0) rfl)) pa_nil)) (pg_name (i := 3) scRound.nd rfl (Or.inl rfl))
        (pss_cons (ps_if (pt_val (pe_meth0 (pv 0) p.cl p.mSaid (ok_said p) hr (bSaid p) .nil pass0)) (pss_one ps_break) pss_nil)
        (pss_one (ps_expr (pe_meth (pv 0) p.cl p.mVisit (ok_visit p) hr (bVisit p) .nil pass0 (pa_cons (pe_op op_add (pe_op op_mod (pv 3) (pe_fld (pv 0) rfl)) pe_int) pa_nil))))))
      (pss_one (ps_ret (pe_op op_sub (pe_callB call_len_seq (by rfl) p.n_len PySem.boot_len (pa_cons (pe_fld (pv 0) rfl) pa_nil)) (pv 2))))), ?_⟩
    refine ⟨_, rfl, c, p.C, dx, _, _, rfl, ho, p.cl, p.a_visits, rfl, v, _, rfl, .inl (SqL.of hv), ?_⟩
    rw [hal]
    have fin : ∀ (x3 : Option V) (H' : Hp) (l : List Nat), rl s k = l → CellAt p.C H' c v u (plus s l) → Keep H H' c v u →
        (tRet (tOp (rI0 fun i j => V.int (i - j)) (tCB (fun xs H Q => ∃ p ys, xs = [V.ref p] ∧ (SqL K H p ys ∨ SqT K H p ys) ∧ Q (.int ys.length) H) (tCons (tFld K (tVar 0) "visits") tNil)) (tVar 2))) { nx := fun _ H' => Q .non H', rt := Q }
          [some (.ref c), some (.int k), some (.int (s.calls.length : Nat)), x3] H' := fun x3 H' l e ha hkp => by
      obtain ⟨dx', ho'⟩ := ha.obj
      obtain ⟨as', hv', hw'⟩ := ha.vis
      have hal' : (as'.map V.ref).length = s.calls.length + l.length := by rw [List.length_map, hw'.len, vis_len]; exact List.length_append
      refine ⟨_, rfl, c, p.C, dx', _, _, rfl, ho', p.cl, p.a_visits, rfl, v, _, rfl, .inl (SqL.of hv'), _, rfl, _, _, rfl, rfl, ?_⟩
      have e2 : (((as'.map V.ref).length : Nat) : Int) - ((s.calls.length : Nat) : Int) = ((rl s k).length : Nat) := by rw [hal', e]; omega
      have z := kk H' (by rw [e]; exact ha) hkp
      rw [← e2] at z
      exact z
    refine ⟨_, rfl, _, rfl, c, p.C, dx, _, _, rfl, ho, p.cl, p.a_people, rfl, _, _, rfl, rfl, .inl ⟨by omega, by omega⟩, (k : Int) * (s.rule.n : Int), rfl, ?_, ?_, ?_⟩
    · have : (0 : Int) ≤ (k : Int) * (s.rule.n : Int) := Int.mul_nonneg (by omega) (by omega)
      omega
    · have : (k : Int) * (s.rule.n : Int) = ((k * s.rule.n : Nat) : Int) := by rw [Int.natCast_mul]
      omega
    have hT : ((k : Int) * (s.rule.n : Int)).toNat = k * s.rule.n := by rw [← Int.natCast_mul, Int.toNat_natCast]
    rw [hT]
    refine for_range (n := k * s.rule.n) (fun i σ H' => ∃ x3 : Option V, σ = [some (.ref c), some (.int k), some (.int (s.calls.length : Nat)), x3] ∧ RInv p.C H H' c v u s k i) ?_ ?_ ?_
    · refine ⟨none, rfl, ⟨?_, ?_, Keep.refl H c v u, ?_⟩⟩
      · rw [List.take_zero, plus, List.append_nil]
        exact hc
      · rw [List.take_zero, plus, List.append_nil]
        exact wf
      · rw [List.take_zero, plus, List.append_nil, List.drop_zero, List.nil_append]
    · rintro i σ H' hi ⟨x3, rfl, R⟩
      have hat := R.at_
      obtain ⟨dx', ho'⟩ := hat.obj
      have hL : (Ux07.round s.rule k)[i]? = some (i % s.rule.n + 1) := round_at s.rule k i hi
      refine ⟨_, rfl, c, dx', _, rfl, ho', rfl, c, v, u, _, rfl, hat, R.wf, _, rfl, ?_⟩
      cases hov : Ux07.over (plus s ((Ux07.round s.rule k).take i)) with
      | true =>
        refine iteT ?_
        refine fin _ H' _ ?_ hat R.kp
        rw [R.eq, callsOf_said hov, List.append_nil]
      | false =>
        refine iteF ?_
        have hmod : i % s.rule.n < s.rule.n := Nat.mod_lt _ (by omega)
        have hcl : (plus s ((Ux07.round s.rule k).take i)).calls.length < sizeLine := by
          show (s.calls ++ (Ux07.round s.rule k).take i).length < sizeLine
          rw [List.length_append, List.length_take, round_len, sizeLine_eq]
          omega
        refine ⟨_, rfl, c, dx', _, rfl, ho', rfl, _, rfl, _, rfl, c, p.C, dx', _, _, rfl, ho', p.cl, p.a_people, rfl, _, _, rfl, rfl, (by show (0 : Int) < ((s.rule.n : Nat) : Int); omega), _, _, rfl, rfl, c, v, u, _, i % s.rule.n + 1, ?_, hat, R.wf, Nat.le_add_left _ _, hmod, hcl, fun H2 hc2 kp2 => ?_⟩
        · show [V.ref c, V.int ((0 + (i : Int)) % (s.rule.n : Int) + 1)] = _
          rw [Int.zero_add]
          rfl
        · refine ⟨_, rfl, ⟨?_, ?_, R.kp.trans kp2, ?_⟩⟩
          · rw [take_at hL, ← plus_snoc]
            exact hc2
          · rw [take_at hL, ← plus_snoc]
            exact R.wf.visit hov (Nat.le_add_left _ _) hmod
          · rw [R.eq, drop_at hL, callsOf_go hov, take_at hL, List.append_assoc, ← plus_snoc]
            have e : Ux07.now (plus (plus s ((Ux07.round s.rule k).take i)) [i % s.rule.n + 1]) = Ux07.called s.rule (Ux07.now (plus s ((Ux07.round s.rule k).take i))) (i % s.rule.n + 1) := behind_snoc _ _ _
            rw [e]
            rfl
    · rintro σ H' ⟨x3, rfl, R⟩
      have e := R.eq
      have hl : (Ux07.round s.rule k).length ≤ k * s.rule.n := by rw [round_len]; exact Nat.le_refl _
      rw [List.drop_eq_nil_of_le hl] at e
      exact fin _ H' _ (by rw [e]; exact List.append_nil _) R.at_ R.kp
end
end LP
end

section
set_option Elab.async false
set_option linter.all false
set_option maxRecDepth 100000
set_option Elab.async false
set_option linter.all false
set_option maxRecDepth 100000
namespace LP
open PySem PySem.Spec PyProof.Rows L2 LM
/-- who has been called, in the specification's words -/
abbrev bl (s : Ux07.St) : List Nat := (Ux07.people s.rule.n).filter fun p => s.calls.contains p
theorem bl_is {s : Ux07.St} (wf : WF s) {ns : List Int} (h1 : ns.Perm (LS.ded (s.calls.map fun (k : Nat) => (k : Int)))) (h2 : ns.Pairwise (· ≤ ·)) : ns = (bl s).map fun (k : Nat) => (k : Int) := by
  refine (same_sorted ?_ (been_sorted s.rule.n fun p => s.calls.contains p) h2).symm
  refine List.Perm.trans ?_ h1.symm
  refine (List.perm_ext_iff_of_nodup ?_ (LS.ded_nodup _)).mpr fun x => ?_
  · exact (been_sorted s.rule.n fun p => s.calls.contains p).imp fun h => Int.ne_of_lt h
  · rw [LS.mem_ded]
    constructor
    · intro h
      obtain ⟨k, hk, rfl⟩ := List.mem_map.mp h
      have h3 := (List.mem_filter.mp hk).2
      exact List.mem_map.mpr ⟨k, List.contains_iff_mem.mp h3, rfl⟩
    · intro h
      obtain ⟨k, hk, rfl⟩ := List.mem_map.mp h
      exact List.mem_map.mpr ⟨k, List.mem_filter.mpr ⟨mem_people.mpr (wf.ps k hk), List.contains_iff_mem.mpr hk⟩, rfl⟩
theorem bl_len (s : Ux07.St) : (bl s).length ≤ s.rule.n := Nat.le_trans (List.length_filter_le _ _) (Nat.le_of_eq (people_len _))
theorem ded_len {s : Ux07.St} (wf : WF s) : (LS.ded (s.calls.map fun (k : Nat) => (k : Int))).length ≤ 20 := by
  have e : (LS.ded (s.calls.map fun (k : Nat) => (k : Int))).Perm ((bl s).map fun (k : Nat) => (k : Int)) := by
    refine (List.perm_ext_iff_of_nodup (LS.ded_nodup _) ?_).mpr fun x => ?_
    · exact (been_sorted s.rule.n fun p => s.calls.contains p).imp fun h => Int.ne_of_lt h
    · rw [LS.mem_ded]
      constructor
      · intro h
        obtain ⟨k, hk, rfl⟩ := List.mem_map.mp h
        exact List.mem_map.mpr ⟨k, List.mem_filter.mpr ⟨mem_people.mpr (wf.ps k hk), List.contains_iff_mem.mpr hk⟩, rfl⟩
      · intro h
        obtain ⟨k, hk, rfl⟩ := List.mem_map.mp h
        have h3 := (List.mem_filter.mp hk).2
        exact List.mem_map.mpr ⟨k, List.contains_iff_mem.mp h3, rfl⟩
  rw [e.length_eq, List.length_map]
  exact Nat.le_trans (bl_len s) wf.n20
def spBeen (C : Addr) : Sp := fun vs H Q _ => ∃ (c v u : Addr) (s : Ux07.St), vs = [.ref c] ∧ CellAt C H c v u s ∧ WF s ∧ s.calls.length ≤ 1000000 ∧
  ∀ (H' : Hp) (q : Addr), Same H H' → H q = Option.none → H' q = some (.lst ((bl s).map fun (k : Nat) => V.int k)) → Q (.ref q) H'
section
variable {P : Program} {w : World} {K : PySem.W.Frag} {mg : Str → Option Value} {base : Heap}
def blkBeen : Scope := match defBody sBeen with
  | [.Return (some (.Call _ [.Call _ [.ListComp _ _ sc _] _ _] _ _)) _] => sc
  | _ => { kind := .function, names := [], isGenerator := false, isCoroutine := false }
theorem okBeen : BlkOk NBeen (defScope sBeen) blkBeen [("visit", 1)] := ⟨rfl, by decide +kernel, by decide +kernel, by decide +kernel, by decide +kernel⟩
theorem ok_been (p : Prg K mg) : FnOk P w K mg base CX0 1 p.fBeen p.dBeen PBeen (spBeen p.C) := by
  refine p.FBeen.ok scBeen (fun vs H Q E h => ?_) (fun cdv A outer s H vs Q E hr h => ?_)
  · obtain ⟨c, v, u, s, rfl, _⟩ := h
    rfl
  · obtain ⟨c, v, u, s, rfl, hc, wf, hlen, k⟩ := h
    obtain ⟨dx, ho⟩ := hc.obj
    obtain ⟨as, hv, hw⟩ := hc.vis
    refine ⟨_, pss_one (ps_ret (pe_callB (LS.cr_sortedSet rfl) (by rfl) p.n_sorted PyProof.Rows.boot_sorted (pa_cons (pe_callTy (LS.cr_set rfl) (by rfl) p.n_set PyProof.Rows.boot_set
      (pa_cons (pe_lc (own := [("visit", 1)]) (te := tOp (rIxT K) (tVar 1) (tC (.int 0))) rfl scBeen.nd (pi_list (pe_fld (pv 0) rfl)) okBeen (fun _ _ _ _ _ => pg_name (i := 1) scBeen.nd rfl (Or.inl rfl)) (fun _ _ _ _ _ => pts_nil) (fun _ _ _ _ _ => pe_ix ix_tup (pv 1) pe_int (fun _ _ => rfl))) pa_nil)) pa_nil))), ?_⟩
    refine ⟨_, rfl, c, p.C, dx, _, _, rfl, ho, p.cl, p.a_visits, rfl, v, rfl, ⟨_, SqL.of hv⟩, fun D hD => ?_⟩
    have hvl : (LM.vis s.rule (Ux07.first s.rule) s.calls).length = s.calls.length := vis_len _ _ _
    have hal : as.length = s.calls.length := by rw [hw.len, hvl]
    have keepD : ∀ {H' : Hp} {xs : List V}, Same H H' → Same H (upd H' D (.lst xs)) := fun {H' xs} sm b o e => by
      rw [upd_ne (ne_of_none e hD)]
      exact sm b o e
    refine lc_list (K := K) (a := v) (xs := as.map V.ref) (fun i H' => Same H H' ∧ H' D = some (.lst ((s.calls.take i).map fun (k : Nat) => V.int k))) ?_ ?_ ?_ ?_
    · exact ⟨keepD (Same.refl H), by rw [upd_same]; rfl⟩
    · intro i H' _ hP
      exact SqL.of (hP.1 _ _ hv)
    · rintro i x H' hx ⟨sm, hd⟩
      obtain ⟨a, ha, rfl⟩ : ∃ a, as[i]? = some a ∧ x = V.ref a := by
        rw [List.getElem?_map] at hx
        cases e : as[i]? with
        | none => rw [e] at hx; cases hx
        | some a => rw [e] at hx; exact ⟨a, rfl, (Option.some.inj hx).symm⟩
      obtain ⟨q, hq, hta⟩ := hw.at_ i a ha
      have hqc : s.calls[i]? = some q.1 := by
        have e : ((LM.vis s.rule (Ux07.first s.rule) s.calls).map (·.1))[i]? = s.calls[i]? := by rw [vis_fst]
        rw [List.getElem?_map, hq] at e
        exact e.symm
      have hi : i < s.calls.length := (List.getElem?_eq_some_iff.mp hqc).1
      refine ⟨rfl, ?_⟩
      unfold tYes
      dsimp only
      rw [if_pos rfl]
      refine ⟨_, rfl, a, _, _, _, rfl, rfl, SqT.of (sm _ _ hta), atI_nat (j := 0) rfl, _, hd, ?_, keepD sm, ?_⟩
      · rw [List.length_map, List.length_take, sizeLine_eq]
        omega
      · rw [upd_same, take_at hqc, List.map_append]
        rfl
    · rintro H' ⟨sm, hd⟩
      rw [List.length_map, hal, List.take_length] at hd
      have hd2 : H' D = some (.lst ((s.calls.map fun (k : Nat) => (k : Int)).map V.int)) := by rw [hd, List.map_map]; rfl
      have dl := ded_len wf
      refine ⟨D, s.calls.map fun (k : Nat) => (k : Int), rfl, SqL.of hd2, (by unfold scanBound; omega), fun z hz => ?_⟩
      refine ⟨z, _, rfl, upd_same, (by rw [sizeLine_eq]; omega), fun ns q g1 g2 hq => ?_⟩
      have sm2 : Same H (upd H' z (LS.SetO P w z (LS.ded (s.calls.map fun (k : Nat) => (k : Int))))) := fun b o e => by
        rw [upd_ne (ne_of_none (sm b o e) hz)]
        exact sm b o e
      have e := bl_is wf g1 g2
      refine k _ q (fun b o e => ?_) (sm2.free hq) ?_
      · rw [upd_ne (ne_of_none (sm2 b o e) hq)]
        exact sm2 b o e
      · rw [upd_same, e, List.map_map]
        rfl
end
end LP
end

section
set_option Elab.async false
set_option linter.all false
set_option maxRecDepth 100000
set_option Elab.async false
set_option linter.all false
set_option maxRecDepth 100000
namespace LP
open PySem PySem.Spec PyProof.Rows L2 LM
/-- what an answer's def leaves: the cell, its list of numbers at a new place, and all else -/
def Ans (C : Addr) (H : Hp) (c v u : Addr) (r : Ux07.St × List Int) (Q : VK) : Prop :=
  ∀ (H' : Hp) (q v' u' : Addr), CellAt C H' c v' u' r.1 → H q = Option.none → H' q = some (.lst (r.2.map V.int)) → (∀ b o, H b = some o → b ≠ c → b ≠ v → b ≠ u → H' b = some o ∧ b ≠ v' ∧ b ≠ u') → Q (.ref q) H'
theorem Keep.free {C : Addr} {H H1 : Hp} {c v u q : Addr} {s1 : Ux07.St} (k : Keep H H1 c v u) (h : CellAt C H1 c v u s1) (e : H1 q = Option.none) : H q = Option.none := by
  cases z : H q with
  | none => rfl
  | some o =>
    obtain ⟨dx, ho⟩ := h.obj
    obtain ⟨as, hv, _⟩ := h.vis
    have n1 : q ≠ c := fun y => by rw [y, ho] at e; cases e
    have n2 : q ≠ v := fun y => by rw [y, hv] at e; cases e
    have n3 : q ≠ u := fun y => by rw [y, h.tur] at e; cases e
    rw [k q o z n1 n2 n3] at e
    cases e
/-- the answer's list is laid, behind a heap in which the cell already stands as it should -/
theorem Ans.lay {C : Addr} {H H1 : Hp} {c v u q : Addr} {r : Ux07.St × List Int} {Q : VK} {xs : List V} (h : Ans C H c v u r Q) (hc : CellAt C H1 c v u r.1) (k : Keep H H1 c v u) (hq : H1 q = Option.none) (e : xs = r.2.map V.int) : Q (.ref q) (upd H1 q (.lst xs)) := by
  subst e
  have sm : Same H1 (upd H1 q (.lst (r.2.map V.int))) := fun b o e => by
    rw [upd_ne (ne_of_none e hq)]
    exact e
  exact h _ q v u (hc.same sm) (k.free hc hq) upd_same fun b o e n1 n2 n3 => ⟨sm _ _ (k b o e n1 n2 n3), n2, n3⟩

def spAsNum : Sp := fun vs H Q _ => ∃ b : Bool, vs = [.bl b] ∧ Q (.int (fl b)) H
def spWithin : Sp := fun vs H Q _ => ∃ z a b : Int, vs = [.int z, .int a, .int b] ∧ Q (.bl (decide (a ≤ z ∧ z ≤ b))) H
def fits (n t g k l : Int) : Bool := decide (2 ≤ n ∧ n ≤ 20) && decide (1 ≤ t ∧ t ≤ 20) && decide (1 ≤ g ∧ g ≤ 400) && !(decide (1 < k) || decide (1 < l)) && (decide (k = 0) || decide (l = 0))
def spFits : Sp := fun vs H Q _ => ∃ n t g k l : Int, vs = [.int n, .int t, .int g, .int k, .int l] ∧ Q (.bl (fits n t g k l)) H
def spACell (C : Addr) : Sp := fun vs H Q _ => ∃ (c v u : Addr) (s : Ux07.St) (n t g k l : Int), vs = [.ref c, .int n, .int t, .int g, .int k, .int l] ∧ CellAt C H c v u s ∧ WF s ∧ inn n ∧ inn t ∧ inn g ∧ inn k ∧ inn l ∧
  Ans C H c v u (Ux07.step s (.cell n.toNat t.toNat g.toNat k.toNat l.toNat)) Q
def spACall (C : Addr) : Sp := fun vs H Q _ => ∃ (c v u : Addr) (s : Ux07.St) (z : Int), vs = [.ref c, .int z] ∧ CellAt C H c v u s ∧ WF s ∧ inn z ∧ s.calls.length ≤ 900000 ∧ Ans C H c v u (Ux07.step s (.call z.toNat)) Q
def spARounds (C : Addr) : Sp := fun vs H Q _ => ∃ (c v u : Addr) (s : Ux07.St) (z : Int), vs = [.ref c, .int z] ∧ CellAt C H c v u s ∧ WF s ∧ inn z ∧ s.calls.length ≤ 900000 ∧ Ans C H c v u (Ux07.step s (.rounds z.toNat)) Q
def spATurned (C : Addr) : Sp := fun vs H Q _ => ∃ (c v u : Addr) (s : Ux07.St) (z : Int), vs = [.ref c, .int z] ∧ CellAt C H c v u s ∧ WF s ∧ inn z ∧ Ans C H c v u (Ux07.step s (.turned z.toNat)) Q
/-- the calls without numbers -/
def spA0 (C : Addr) (x : Ux07.Call) : Sp := fun vs H Q _ => ∃ (c v u : Addr) (s : Ux07.St), vs = [.ref c] ∧ CellAt C H c v u s ∧ WF s ∧ s.calls.length ≤ 900000 ∧ Ans C H c v u (Ux07.step s x) Q
section
variable {P : Program} {w : World} {K : PySem.W.Frag} {mg : Str → Option Value} {base : Heap}
theorem ok_asnum (p : Prg K mg) : FnOk P w K mg base CX0 1 p.fAsNum p.dAsNum PAsNum spAsNum := by
  refine p.FAsNum.ok scAsNum (fun vs H Q E h => ?_) (fun cdv A outer s H vs Q E hr h => ?_)
  · obtain ⟨b, rfl, _⟩ := h
    rfl
  · obtain ⟨b, rfl, k⟩ := h
    refine ⟨_, pss_one (ps_ret (pe_ifExp (pt_val (pv 0)) pe_int pe_int)), ?_⟩
    refine ⟨_, rfl, _, rfl, ?_⟩
    cases b with
    | true => exact iteT k
    | false => exact iteF k
theorem ok_within (p : Prg K mg) : FnOk P w K mg base CX0 1 p.fWithin p.dWithin PWithin spWithin := by
  refine p.FWithin.ok scWithin (fun vs H Q E h => ?_) (fun cdv A outer s H vs Q E hr h => ?_)
  · obtain ⟨z, a, b, rfl, _⟩ := h
    rfl
  · obtain ⟨z, a, b, rfl, k⟩ := h
    refine ⟨_, pss_one (ps_ret (pe_and (pe_cmp (pc_ge (pv 0) (pv 1))) (pe_one (pe_cmp (pc_le (pv 0) (pv 2)))))), ?_⟩
    refine ⟨_, rfl, _, rfl, _, _, rfl, rfl, _, rfl, ite2 (fun h1 => ?_) (fun h1 => ?_)⟩
    · refine ⟨_, rfl, _, rfl, _, _, rfl, rfl, ?_⟩
      have e : decide (a ≤ z ∧ z ≤ b) = decide (z ≤ b) := decide_eq_decide.mpr ⟨fun q => q.2, fun q => ⟨of_decide_eq_true h1, q⟩⟩
      rw [e] at k
      exact k
    · have e : decide (a ≤ z ∧ z ≤ b) = false := decide_eq_false fun q => h1 (decide_eq_true q.1)
      rw [e] at k
      exact k
theorem ok_fits (p : Prg K mg) : FnOk P w K mg base CX0 2 p.fFits p.dFits PFits spFits := by
  refine p.FFits.ok scFits (fun vs H Q E h => ?_) (fun cdv A outer s H vs Q E hr h => ?_)
  · obtain ⟨n, t, g, k, l, rfl, _⟩ := h
    rfl
  · obtain ⟨n, t, g, k, l, rfl, kk⟩ := h
    refine ⟨_, pss_cons (ps_if (pt_not (pt_val (pe_call (ok_within p) hr rfl p.gWithin p.kWithin (bWithin p) .nil pass0 (pa_cons (pv 0) (pa_cons pe_int (pa_cons (pe_glob (v := .int 20) rfl p.c_MOST_PEOPLE ⟨_, rfl⟩) pa_nil)))))) (pss_one (ps_ret pe_bl)) pss_nil)
      (pss_cons (ps_if (pt_not (pt_val (pe_call (ok_within p) hr rfl p.gWithin p.kWithin (bWithin p) .nil pass0 (pa_cons (pv 1) (pa_cons pe_int (pa_cons (pe_glob (v := .int 20) rfl p.c_MOST_TIMES ⟨_, rfl⟩) pa_nil)))))) (pss_one (ps_ret pe_bl)) pss_nil)
      (pss_cons (ps_if (pt_not (pt_val (pe_call (ok_within p) hr rfl p.gWithin p.kWithin (bWithin p) .nil pass0 (pa_cons (pv 2) (pa_cons pe_int (pa_cons (pe_glob (v := .int 400) rfl p.c_MOST_GOAL ⟨_, rfl⟩) pa_nil)))))) (pss_one (ps_ret pe_bl)) pss_nil)
      (pss_cons (ps_if (PW.pt (pw_or (pt_cmp (pc_gt (pv 3) pe_int)) (pw_or1 (pt_cmp (pc_gt (pv 4) pe_int))))) (pss_one (ps_ret pe_bl)) pss_nil)
      (pss_one (ps_ret (pe_or (pe_cmp (pc_eqI (pv 3) pe_int)) (pe_one (pe_cmp (pc_eqI (pv 4) pe_int))))))))), ?_⟩
    unfold fits at kk
    refine ⟨_, rfl, n, 2, 20, rfl, _, rfl, ?_⟩
    cases e1 : decide (2 ≤ n ∧ n ≤ 20) with
    | false =>
      rw [e1] at kk
      simp only [Bool.false_and] at kk
      exact iteT kk
    | true =>
      rw [e1] at kk
      refine iteF ⟨_, rfl, t, 1, 20, rfl, _, rfl, ?_⟩
      cases e2 : decide (1 ≤ t ∧ t ≤ 20) with
      | false =>
        rw [e2] at kk
        simp only [Bool.false_and, Bool.and_false] at kk
        exact iteT kk
      | true =>
        rw [e2] at kk
        refine iteF ⟨_, rfl, g, 1, 400, rfl, _, rfl, ?_⟩
        cases e3 : decide (1 ≤ g ∧ g ≤ 400) with
        | false =>
          rw [e3] at kk
          simp only [Bool.false_and, Bool.and_false] at kk
          exact iteT kk
        | true =>
          rw [e3] at kk
          refine iteF ⟨_, rfl, _, _, rfl, rfl, _, rfl, ite2 (fun h4 => ?_) (fun h4 => ?_)⟩
          · have e4 : decide (1 < k) = true := h4
            rw [e4] at kk
            simp only [Bool.true_or, Bool.not_true, Bool.false_and, Bool.and_false] at kk
            exact iteT kk
          · have e4 : decide (1 < k) = false := by
              have z : ¬ decide (1 < k) = true := h4
              simpa using z
            rw [e4] at kk
            refine ⟨_, rfl, _, _, rfl, rfl, _, rfl, ite2 (fun h5 => ?_) (fun h5 => ?_)⟩
            · have e5 : decide (1 < l) = true := h5
              rw [e5] at kk
              simp only [Bool.or_true, Bool.not_true, Bool.false_and, Bool.and_false] at kk
              exact kk
            · have e5 : decide (1 < l) = false := by
                have z : ¬ decide (1 < l) = true := h5
                simpa using z
              rw [e5] at kk
              simp only [Bool.or_false, Bool.not_false, Bool.true_and, Bool.and_true] at kk
              refine ⟨_, rfl, _, _, rfl, rfl, _, rfl, ite2 (fun h6 => ?_) (fun h6 => ?_)⟩
              · have e6 : decide (k = 0) = true := h6
                rw [e6] at kk
                exact kk
              · have e6 : decide (k = 0) = false := by
                  have z : ¬ decide (k = 0) = true := h6
                  simpa using z
                rw [e6] at kk
                simp only [Bool.false_or] at kk
                exact ⟨_, rfl, _, _, rfl, rfl, kk⟩
end
end LP
end

section
set_option Elab.async false
set_option linter.all false
set_option maxRecDepth 100000
set_option Elab.async false
set_option linter.all false
set_option maxRecDepth 100000
namespace LP
open PySem PySem.Spec PyProof.Rows L2 LM
theorem st_cell (s : Ux07.St) (n t c k l : Nat) : Ux07.step s (.cell n t c k l) = if n < 2 ∨ 20 < n ∨ t < 1 ∨ 20 < t ∨ c < 1 ∨ 400 < c ∨ 1 < k ∨ 1 < l ∨ (k = 1 ∧ l = 1) then (s, [-1]) else (⟨⟨n, t, c, k == 1, l == 1⟩, []⟩, [0]) := rfl
theorem st_call (s : Ux07.St) (p : Nat) : Ux07.step s (.call p) = if p < 1 ∨ s.rule.n < p then (s, [-2]) else if Ux07.over s = true then (s, [-9]) else (plus s [p], Ux07.ints [Ux07.flag (Ux07.now (plus s [p])).lamp, (Ux07.now (plus s [p])).count]) := rfl
theorem st_rounds (s : Ux07.St) (k : Nat) : Ux07.step s (.rounds k) = if 100 < k then (s, [-1]) else if Ux07.over s = true then (s, [-9]) else (plus s (rl s k), Ux07.ints [(rl s k).length, Ux07.flag (Ux07.over (plus s (rl s k)))]) := rfl
theorem st_turned (s : Ux07.St) (p : Nat) : Ux07.step s (.turned p) = (s, if p < 1 ∨ s.rule.n < p then [-2] else Ux07.ints [(Ux07.now s).turns.getD (p - 1) 0]) := rfl
theorem nat_of {z : Int} (h : inn z) : ((z.toNat : Nat) : Int) = z := Int.toNat_of_nonneg h.1
theorem fl_of {k : Int} (h : inn k) (h1 : k ≤ 1) : k = fl (k.toNat == 1) := by
  have h0 := h.1
  rcases (by omega : k = 0 ∨ k = 1) with rfl | rfl <;> rfl
theorem fits_no {s : Ux07.St} {n t g k l : Int} (hn : inn n) (ht : inn t) (hg : inn g) (hk : inn k) (hl : inn l) (h : fits n t g k l = false) : Ux07.step s (.cell n.toNat t.toNat g.toNat k.toNat l.toNat) = (s, [-1]) := by
  have a1 := hn.1; have a2 := ht.1; have a3 := hg.1; have a4 := hk.1; have a5 := hl.1
  have cond : n.toNat < 2 ∨ 20 < n.toNat ∨ t.toNat < 1 ∨ 20 < t.toNat ∨ g.toNat < 1 ∨ 400 < g.toNat ∨ 1 < k.toNat ∨ 1 < l.toNat ∨ (k.toNat = 1 ∧ l.toNat = 1) := by
    unfold fits at h
    by_cases h1 : 2 ≤ n ∧ n ≤ 20
    · by_cases h2 : 1 ≤ t ∧ t ≤ 20
      · by_cases h3 : 1 ≤ g ∧ g ≤ 400
        · by_cases h4 : 1 < k
          · omega
          · by_cases h5 : 1 < l
            · omega
            · by_cases h6 : k = 0
              · rw [decide_eq_true h1, decide_eq_true h2, decide_eq_true h3, decide_eq_false h4, decide_eq_false h5, decide_eq_true h6] at h
                cases h
              · by_cases h7 : l = 0
                · rw [decide_eq_true h1, decide_eq_true h2, decide_eq_true h3, decide_eq_false h4, decide_eq_false h5, decide_eq_true h7] at h
                  simp at h
                · omega
        · omega
      · omega
    · omega
  rw [st_cell, if_pos cond]
theorem fits_yes {n t g k l : Int} (h : fits n t g k l = true) : (2 ≤ n ∧ n ≤ 20) ∧ (1 ≤ t ∧ t ≤ 20) ∧ (1 ≤ g ∧ g ≤ 400) ∧ k ≤ 1 ∧ l ≤ 1 ∧ (k = 0 ∨ l = 0) := by
  unfold fits at h
  simp only [Bool.and_eq_true, decide_eq_true_eq, Bool.not_eq_true', Bool.or_eq_false_iff, decide_eq_false_iff_not, Bool.or_eq_true] at h
  obtain ⟨⟨⟨⟨h1, h2⟩, h3⟩, h4⟩, h5⟩ := h
  exact ⟨h1, h2, h3, by omega, by omega, h5⟩
theorem step_cell {s : Ux07.St} {n t g k l : Int} (hn : inn n) (ht : inn t) (hg : inn g) (hk : inn k) (hl : inn l) (h : fits n t g k l = true) :
    Ux07.step s (.cell n.toNat t.toNat g.toNat k.toNat l.toNat) = (⟨⟨n.toNat, t.toNat, g.toNat, k.toNat == 1, l.toNat == 1⟩, []⟩, [0]) := by
  obtain ⟨h1, h2, h3, h4, h5, h6⟩ := fits_yes h
  have a1 := hn.1; have a2 := ht.1; have a3 := hg.1; have a4 := hk.1; have a5 := hl.1
  rw [st_cell, if_neg (by omega)]
section
variable {P : Program} {w : World} {K : PySem.W.Frag} {mg : Str → Option Value} {base : Heap}
theorem ok_acell (p : Prg K mg) : FnOk P w K mg base CX0 3 p.fACell p.dACell PACell (spACell p.C) := by
  refine p.FACell.ok scACell (fun vs H Q E h => ?_) (fun cdv A outer s H vs Q E hr h => ?_)
  · obtain ⟨c, v, u, s, n, t, g, k, l, rfl, _⟩ := h
    rfl
  · obtain ⟨c, v, u, s, n, t, g, k, l, rfl, hc, wf, hn, ht, hg, hk, hl, kk⟩ := h
    obtain ⟨dx, ho⟩ := hc.obj
    refine ⟨_, pss_cons (ps_if (pt_not (pt_val (pe_call (ok_fits p) hr rfl p.gFits p.kFits (bFits p) .nil pass0 (pa_cons (pv 1) (pa_cons (pv 2) (pa_cons (pv 3) (pa_cons (pv 4) (pa_cons (pv 5) pa_nil)))))))) (pss_one (ps_ret (pe_lst (pa_cons (pe_glob (v := .int (-1)) rfl p.c_OUT_OF_BOUNDS ⟨_, rfl⟩) pa_nil)))) pss_nil)
      (pss_cons (ps_expr (pe_meth (pv 0) p.cl p.mBegin (ok_begin p) (hr.mono (by decide)) (bBegin p) .nil pass0 (pa_cons (pv 1) (pa_cons (pv 2) (pa_cons (pv 3) (pa_cons (pv 4) (pa_cons (pv 5) pa_nil)))))))
      (pss_one (ps_ret (pe_lst (pa_cons pe_int pa_nil))))), ?_⟩
    refine ⟨_, rfl, _, rfl, _, rfl, _, rfl, _, rfl, n, t, g, k, l, rfl, _, rfl, ?_⟩
    cases e : fits n t g k l with
    | false =>
      rw [fits_no hn ht hg hk hl e] at kk
      exact iteT ⟨by show 1 ≤ sizeLine; decide, fun q hq => kk.lay hc (Keep.refl H c v u) hq rfl⟩
    | true =>
      rw [step_cell hn ht hg hk hl e] at kk
      obtain ⟨h1, h2, h3, h4, h5, h6⟩ := fits_yes e
      refine iteF ⟨_, rfl, c, dx, _, rfl, ho, rfl, _, rfl, _, rfl, _, rfl, _, rfl, _, rfl, c, dx, _, n.toNat, t.toNat, g.toNat, k.toNat == 1, l.toNat == 1, ?_, ho, .inr ⟨_, _, _, _, _, _, _, rfl⟩, by omega, fun H' v' u' hc' kp => ?_⟩
      · rw [nat_of hn, nat_of ht, nat_of hg, ← fl_of hk h4, ← fl_of hl h5]
        rfl
      · refine ⟨by show 1 ≤ sizeLine; decide, fun q hq => ?_⟩
        have sm : Same H' (upd H' q (.lst [.int 0])) := fun b o e => by
          rw [upd_ne (ne_of_none e hq)]
          exact e
        refine kk _ q v' u' (hc'.same sm) ?_ upd_same fun b o e n1 n2 n3 => ?_
        · cases z : H q with
          | none => rfl
          | some o =>
            obtain ⟨dx', ho'⟩ := hc'.obj
            have n1 : q ≠ c := fun y => by rw [y, ho'] at hq; cases hq
            rw [(kp q o z n1).1] at hq
            cases hq
        · obtain ⟨q1, q2, q3⟩ := kp b o e n1
          exact ⟨sm _ _ q1, q2, q3⟩
theorem ok_acall (p : Prg K mg) : FnOk P w K mg base CX0 3 p.fACall p.dACall PACall (spACall p.C) := by
  refine p.FACall.ok scACall (fun vs H Q E h => ?_) (fun cdv A outer s H vs Q E hr h => ?_)
  · obtain ⟨c, v, u, s, z, rfl, _⟩ := h
    rfl
  · obtain ⟨c, v, u, s, z, rfl, hc, wf, hz, hlen, kk⟩ := h
    obtain ⟨dx, ho⟩ := hc.obj
    have hz0 := hz.1
    refine ⟨_, pss_cons (ps_if (pt_not (pt_val (pe_meth (pv 0) p.cl p.mHas (ok_has p) (hr.mono (by decide)) (bHas p) .nil pass0 (pa_cons (pv 1) pa_nil)))) (pss_one (ps_ret (pe_lst (pa_cons (pe_glob (v := .int (-2)) rfl p.c_NO_SUCH_PERSON ⟨_, rfl⟩) pa_nil)))) pss_nil)
      (pss_cons (ps_if (pt_val (pe_meth0 (pv 0) p.cl p.mSaid (ok_said p) hr (bSaid p) .nil pass0)) (pss_one (ps_ret (pe_lst (pa_cons (pe_glob (v := .int (-9)) rfl p.c_ALREADY_SAID ⟨_, rfl⟩) pa_nil)))) pss_nil)
      (pss_cons (ps_expr (pe_meth (pv 0) p.cl p.mVisit (ok_visit p) hr (bVisit p) .nil pass0 (pa_cons (pv 1) pa_nil)))
      (pss_one (ps_ret (pe_lst (pa_cons (pe_fld (pv 0) rfl) (pa_cons (pe_meth0 (pv 0) p.cl p.mCounted (ok_counted p) (hr.mono (by decide)) (bCounted p) .nil pass0) pa_nil))))))), ?_⟩
    refine ⟨_, rfl, c, dx, _, rfl, ho, rfl, _, rfl, c, v, u, s, z, rfl, hc, _, rfl, ?_⟩
    by_cases hp : 1 ≤ z ∧ z ≤ (s.rule.n : Int)
    · rw [decide_eq_true hp]
      have hp2 : ¬ (z.toNat < 1 ∨ s.rule.n < z.toNat) := by omega
      refine iteF ⟨_, rfl, c, dx, _, rfl, ho, rfl, c, v, u, s, rfl, hc, wf, _, rfl, ?_⟩
      cases ho2 : Ux07.over s with
      | true =>
        have e : Ux07.step s (.call z.toNat) = (s, [-9]) := by
          rw [st_call, if_neg hp2, if_pos ho2]
        rw [e] at kk
        exact iteT ⟨by show 1 ≤ sizeLine; decide, fun q hq => kk.lay hc (Keep.refl H c v u) hq rfl⟩
      | false =>
        have e : Ux07.step s (.call z.toNat) = (plus s [z.toNat], Ux07.ints [Ux07.flag (Ux07.now (plus s [z.toNat])).lamp, (Ux07.now (plus s [z.toNat])).count]) := by
          rw [st_call, if_neg hp2, if_neg (by rw [ho2]; exact Bool.false_ne_true)]
        rw [e] at kk
        have wf2 : WF (plus s [z.toNat]) := wf.visit ho2 (by omega) (by omega)
        refine iteF ⟨_, rfl, c, dx, _, rfl, ho, rfl, _, rfl, c, v, u, s, z.toNat, by rw [nat_of hz]; rfl, hc, wf, by omega, by omega, by rw [sizeLine_eq]; omega, fun H2 hc2 kp2 => ?_⟩
        obtain ⟨dx2, ho2'⟩ := hc2.obj
        refine ⟨_, rfl, c, p.C, dx2, _, _, rfl, ho2', p.cl, p.a_lamp, rfl, _, rfl, c, dx2, _, rfl, ho2', rfl, c, v, u, _, rfl, hc2, wf2, (by show 2 ≤ sizeLine; decide), fun q hq => ?_⟩
        exact kk.lay hc2 kp2 hq rfl
    · rw [decide_eq_false hp]
      have e : Ux07.step s (.call z.toNat) = (s, [-2]) := by
        rw [st_call, if_pos (by omega)]
      rw [e] at kk
      exact iteT ⟨by show 1 ≤ sizeLine; decide, fun q hq => kk.lay hc (Keep.refl H c v u) hq rfl⟩
theorem ok_aturned (p : Prg K mg) : FnOk P w K mg base CX0 2 p.fATurned p.dATurned PATurned (spATurned p.C) := by
  refine p.FATurned.ok scATurned (fun vs H Q E h => ?_) (fun cdv A outer s H vs Q E hr h => ?_)
  · obtain ⟨c, v, u, s, z, rfl, _⟩ := h
    rfl
  · obtain ⟨c, v, u, s, z, rfl, hc, wf, hz, kk⟩ := h
    obtain ⟨dx, ho⟩ := hc.obj
    have hz0 := hz.1
    refine ⟨_, pss_cons (ps_if (pt_not (pt_val (pe_meth (pv 0) p.cl p.mHas (ok_has p) hr (bHas p) .nil pass0 (pa_cons (pv 1) pa_nil)))) (pss_one (ps_ret (pe_lst (pa_cons (pe_glob (v := .int (-2)) rfl p.c_NO_SUCH_PERSON ⟨_, rfl⟩) pa_nil)))) pss_nil)
      (pss_one (ps_ret (pe_lst (pa_cons (pe_ix ix_list (pe_fld (pv 0) rfl) (pv 1) (fun _ _ => rfl)) pa_nil)))), ?_⟩
    refine ⟨_, rfl, c, dx, _, rfl, ho, rfl, _, rfl, c, v, u, s, z, rfl, hc, _, rfl, ?_⟩
    by_cases hp : 1 ≤ z ∧ z ≤ (s.rule.n : Int)
    · rw [decide_eq_true hp]
      have hp2 : ¬ (z.toNat < 1 ∨ s.rule.n < z.toNat) := by omega
      have e : Ux07.step s (.turned z.toNat) = (s, Ux07.ints [(Ux07.now s).turns.getD (z.toNat - 1) 0]) := by
        rw [st_turned, if_neg hp2]
      rw [e] at kk
      have hat := tv_at (l := (Ux07.now s).turns) (p := z.toNat) (by omega) (by rw [wf.fit.len]; omega)
      refine iteF ⟨_, rfl, c, p.C, dx, _, _, rfl, ho, p.cl, p.a_turns, rfl, _, rfl, u, _, _, _, rfl, rfl, SqL.of hc.tur, at_of (nat_of hz).symm hat, (by show 1 ≤ sizeLine; decide), fun q hq => ?_⟩
      exact kk.lay hc (Keep.refl H c v u) hq rfl
    · rw [decide_eq_false hp]
      have e : Ux07.step s (.turned z.toNat) = (s, [-2]) := by
        rw [st_turned, if_pos (by omega)]
      rw [e] at kk
      exact iteT ⟨by show 1 ≤ sizeLine; decide, fun q hq => kk.lay hc (Keep.refl H c v u) hq rfl⟩
end
end LP
end

section
set_option Elab.async false
set_option linter.all false
set_option maxRecDepth 100000
set_option Elab.async false
set_option linter.all false
set_option maxRecDepth 100000
namespace LP
open PySem PySem.Spec PyProof.Rows L2 LM
theorem st_shows (s : Ux07.St) : Ux07.step s .shows = (s, Ux07.ints [Ux07.flag (Ux07.now s).lamp, (Ux07.now s).count, Ux07.flag (Ux07.over s), s.calls.length]) := rfl
theorem st_been (s : Ux07.St) : Ux07.step s .been = (s, Ux07.counted (bl s)) := rfl
theorem st_back_no {s : Ux07.St} (h : s.calls = []) : Ux07.step s .back = (s, [-7]) := by
  obtain ⟨r, l⟩ := s
  have e : l = [] := h
  subst e
  rfl
theorem st_back (r : Ux07.Rule) (l : List Nat) (q : Nat) : Ux07.step ⟨r, l ++ [q]⟩ .back = (⟨r, l⟩, Ux07.ints [q]) := by
  show (match (l ++ [q]).getLast? with
    | none => ((⟨r, l ++ [q]⟩ : Ux07.St), ([-7] : List Int))
    | some p => (⟨r, (l ++ [q]).dropLast⟩, Ux07.ints [p])) = _
  rw [List.getLast?_concat, List.dropLast_concat]
theorem callsOf_mem (r : Ux07.Rule) : ∀ (l : List Nat) (x : Ux07.Now) (p : Nat), p ∈ Ux07.callsOf r x l → p ∈ l
  | [], x, p, h => h
  | q :: l, x, p, h => by
    cases e : Ux07.said r x with
    | true =>
      rw [callsOf_said e] at h
      simp at h
    | false =>
      rw [callsOf_go e] at h
      rcases List.mem_cons.mp h with rfl | z
      · exact List.mem_cons_self
      · exact List.mem_cons_of_mem _ (callsOf_mem r l _ p z)
theorem callsOf_cnt (r : Ux07.Rule) : ∀ (l : List Nat) (x : Ux07.Now), x.count ≤ r.c → ((Ux07.callsOf r x l).foldl (Ux07.called r) x).count ≤ r.c
  | [], x, h => h
  | q :: l, x, h => by
    cases e : Ux07.said r x with
    | true =>
      rw [callsOf_said e]
      exact h
    | false =>
      rw [callsOf_go e, List.foldl_cons]
      refine callsOf_cnt r l _ ?_
      rw [called_count]
      have z := of_decide_eq_false (show decide (r.c ≤ x.count) = false from e)
      split <;> omega
theorem callsOf_len (r : Ux07.Rule) : ∀ (l : List Nat) (x : Ux07.Now), (Ux07.callsOf r x l).length ≤ l.length
  | [], x => Nat.le_refl _
  | q :: l, x => by
    cases e : Ux07.said r x with
    | true =>
      rw [callsOf_said e]
      exact Nat.zero_le _
    | false =>
      rw [callsOf_go e]
      exact Nat.succ_le_succ (callsOf_len r l _)
theorem round_mem (r : Ux07.Rule) (k : Nat) {p : Nat} (h : p ∈ Ux07.round r k) : 1 ≤ p ∧ p ≤ r.n := by
  unfold Ux07.round at h
  obtain ⟨l, hl, hp⟩ := List.mem_flatten.mp h
  rw [(List.mem_replicate.mp hl).2] at hp
  exact mem_people.mp hp
theorem wf_rounds {s : Ux07.St} (w : WF s) (k : Nat) : WF (plus s (rl s k)) := by
  refine ⟨w.n2, w.n20, w.t1, w.t20, w.c1, w.c400, fun p hp => ?_, ?_⟩
  · rcases List.mem_append.mp hp with z | z
    · exact w.ps p z
    · exact round_mem s.rule k (callsOf_mem _ _ _ _ z)
  · show ((s.calls ++ rl s k).foldl (Ux07.called s.rule) (Ux07.first s.rule)).count ≤ s.rule.c
    rw [List.foldl_append]
    exact callsOf_cnt s.rule _ _ w.cnt
section
variable {P : Program} {w : World} {K : PySem.W.Frag} {mg : Str → Option Value} {base : Heap}
theorem ok_arounds (p : Prg K mg) : FnOk P w K mg base CX0 4 p.fARounds p.dARounds PARounds (spARounds p.C) := by
  refine p.FARounds.ok scARounds (fun vs H Q E h => ?_) (fun cdv A outer s H vs Q E hr h => ?_)
  · obtain ⟨c, v, u, s, z, rfl, _⟩ := h
    rfl
  · obtain ⟨c, v, u, s, z, rfl, hc, wf, hz, hlen, kk⟩ := h
    obtain ⟨dx, ho⟩ := hc.obj
    have hz0 := hz.1
    refine ⟨_, pss_cons (ps_if (pt_cmp (pc_gt (pv 1) (pe_glob (v := .int 100) rfl p.c_MOST_ROUNDS ⟨_, rfl⟩))) (pss_one (ps_ret (pe_lst (pa_cons (pe_glob (v := .int (-1)) rfl p.c_OUT_OF_BOUNDS ⟨_, rfl⟩) pa_nil)))) pss_nil)
      (pss_cons (ps_if (pt_val (pe_meth0 (pv 0) p.cl p.mSaid (ok_said p) (hr.mono (by decide)) (bSaid p) .nil pass0)) (pss_one (ps_ret (pe_lst (pa_cons (pe_glob (v := .int (-9)) rfl p.c_ALREADY_SAID ⟨_, rfl⟩) pa_nil)))) pss_nil)
      (pss_cons (ps_set (i := 2) scARounds.nd rfl (Or.inl rfl) (pe_meth (pv 0) p.cl p.mRound (ok_round p) hr (bRound p) .nil pass0 (pa_cons (pv 1) pa_nil)))
      (pss_one (ps_ret (pe_lst (pa_cons (pv 2) (pa_cons (pe_call (ok_asnum p) (hr.mono (by decide)) rfl p.gAsNum p.kAsNum (bAsNum p) .nil pass0 (pa_cons (pe_meth0 (pv 0) p.cl p.mSaid (ok_said p) (hr.mono (by decide)) (bSaid p) .nil pass0) pa_nil)) pa_nil))))))), ?_⟩
    refine ⟨_, rfl, _, _, rfl, rfl, _, rfl, ite2 (fun h1 => ?_) (fun h1 => ?_)⟩
    · have h2 : 100 < z := of_decide_eq_true h1
      have e : Ux07.step s (.rounds z.toNat) = (s, [-1]) := by rw [st_rounds, if_pos (by omega)]
      rw [e] at kk
      exact ⟨by show 1 ≤ sizeLine; decide, fun q hq => kk.lay hc (Keep.refl H c v u) hq rfl⟩
    · have h2 : ¬ 100 < z := fun y => h1 (decide_eq_true y)
      refine ⟨_, rfl, c, dx, _, rfl, ho, rfl, c, v, u, s, rfl, hc, wf, _, rfl, ?_⟩
      cases ho2 : Ux07.over s with
      | true =>
        have e : Ux07.step s (.rounds z.toNat) = (s, [-9]) := by rw [st_rounds, if_neg (by omega), if_pos ho2]
        rw [e] at kk
        exact iteT ⟨by show 1 ≤ sizeLine; decide, fun q hq => kk.lay hc (Keep.refl H c v u) hq rfl⟩
      | false =>
        have e : Ux07.step s (.rounds z.toNat) = (plus s (rl s z.toNat), Ux07.ints [(rl s z.toNat).length, Ux07.flag (Ux07.over (plus s (rl s z.toNat)))]) := by
          rw [st_rounds, if_neg (by omega), if_neg (by rw [ho2]; exact Bool.false_ne_true)]
        rw [e] at kk
        refine iteF ⟨_, rfl, c, dx, _, rfl, ho, rfl, _, rfl, c, v, u, s, z.toNat, by rw [nat_of hz]; rfl, hc, wf, by omega, by omega, fun H2 hc2 kp2 => ?_⟩
        obtain ⟨dx2, ho2'⟩ := hc2.obj
        refine ⟨_, rfl, _, rfl, c, dx2, _, rfl, ho2', rfl, c, v, u, _, rfl, hc2, wf_rounds wf z.toNat, _, rfl, (by show 2 ≤ sizeLine; decide), fun q hq => ?_⟩
        exact kk.lay hc2 kp2 hq rfl
theorem ok_aback (p : Prg K mg) : FnOk P w K mg base CX0 2 p.fABack p.dABack PABack (spA0 p.C .back) := by
  refine p.FABack.ok scABack (fun vs H Q E h => ?_) (fun cdv A outer s H vs Q E hr h => ?_)
  · obtain ⟨c, v, u, s, rfl, _⟩ := h
    rfl
  · obtain ⟨c, v, u, s, rfl, hc, wf, hlen, kk⟩ := h
    obtain ⟨dx, ho⟩ := hc.obj
    obtain ⟨as, hv, hw⟩ := hc.vis
    have hal : (as.map V.ref).length = s.calls.length := by rw [List.length_map, hw.len, vis_len]
    refine ⟨_, pss_cons (ps_if (pt_cmp (pc_eqI (pe_callB call_len_seq (by rfl) p.n_len PySem.boot_len (pa_cons (pe_fld (pv 0) rfl) pa_nil)) pe_int)) (pss_one (ps_ret (pe_lst (pa_cons (pe_glob (v := .int (-7)) rfl p.c_NOBODY_CALLED ⟨_, rfl⟩) pa_nil)))) pss_nil)
      (pss_one (ps_ret (pe_lst (pa_cons (pe_meth0 (pv 0) p.cl p.mUndo (ok_undo p) hr (bUndo p) .nil pass0) pa_nil)))), ?_⟩
    refine ⟨_, rfl, c, p.C, dx, _, _, rfl, ho, p.cl, p.a_visits, rfl, v, _, rfl, .inl (SqL.of hv), _, _, rfl, rfl, _, rfl, ite2 (fun h1 => ?_) (fun h1 => ?_)⟩
    · have h2 : (((as.map V.ref).length : Nat) : Int) = 0 := of_decide_eq_true h1
      have h3 : s.calls = [] := List.eq_nil_of_length_eq_zero (by omega)
      rw [st_back_no h3] at kk
      exact ⟨by show 1 ≤ sizeLine; decide, fun q hq => kk.lay hc (Keep.refl H c v u) hq rfl⟩
    · have h2 : ¬ (((as.map V.ref).length : Nat) : Int) = 0 := fun y => h1 (decide_eq_true y)
      have hne : s.calls ≠ [] := fun y => h2 (by rw [hal, y]; rfl)
      obtain ⟨r, l0⟩ := s
      obtain ⟨l, q0, hl⟩ : ∃ l q0, l0 = l ++ [q0] := ⟨l0.dropLast, l0.getLast hne, (List.dropLast_concat_getLast hne).symm⟩
      subst hl
      rw [st_back] at kk
      refine ⟨_, rfl, c, dx, _, rfl, ho, rfl, c, v, u, r, l, q0, rfl, hc, wf, fun H2 hc2 kp2 => ?_⟩
      exact ⟨by show 1 ≤ sizeLine; decide, fun q hq => kk.lay hc2 kp2 hq rfl⟩
theorem ok_ashows (p : Prg K mg) : FnOk P w K mg base CX0 3 p.fAShows p.dAShows PAShows (spA0 p.C .shows) := by
  refine p.FAShows.ok scAShows (fun vs H Q E h => ?_) (fun cdv A outer s H vs Q E hr h => ?_)
  · obtain ⟨c, v, u, s, rfl, _⟩ := h
    rfl
  · obtain ⟨c, v, u, s, rfl, hc, wf, hlen, kk⟩ := h
    obtain ⟨dx, ho⟩ := hc.obj
    obtain ⟨as, hv, hw⟩ := hc.vis
    have hal : (as.map V.ref).length = s.calls.length := by rw [List.length_map, hw.len, vis_len]
    refine ⟨_, pss_one (ps_ret (pe_lst (pa_cons (pe_fld (pv 0) rfl) (pa_cons (pe_meth0 (pv 0) p.cl p.mCounted (ok_counted p) (hr.mono (by decide)) (bCounted p) .nil pass0)
      (pa_cons (pe_call (ok_asnum p) (hr.mono (by decide)) rfl p.gAsNum p.kAsNum (bAsNum p) .nil pass0 (pa_cons (pe_meth0 (pv 0) p.cl p.mSaid (ok_said p) hr (bSaid p) .nil pass0) pa_nil))
      (pa_cons (pe_callB call_len_seq (by rfl) p.n_len PySem.boot_len (pa_cons (pe_fld (pv 0) rfl) pa_nil)) pa_nil)))))), ?_⟩
    rw [st_shows] at kk
    refine ⟨_, rfl, c, p.C, dx, _, _, rfl, ho, p.cl, p.a_lamp, rfl, _, rfl, c, dx, _, rfl, ho, rfl, c, v, u, s, rfl, hc, wf, _, rfl, c, dx, _, rfl, ho, rfl, c, v, u, s, rfl, hc, wf, _, rfl,
      _, rfl, c, p.C, dx, _, _, rfl, ho, p.cl, p.a_visits, rfl, v, _, rfl, .inl (SqL.of hv), (by show 4 ≤ sizeLine; decide), fun q hq => ?_⟩
    refine kk.lay hc (Keep.refl H c v u) hq ?_
    rw [hal]
    rfl
theorem ok_abeen (p : Prg K mg) : FnOk P w K mg base CX0 2 p.fABeen p.dABeen PABeen (spA0 p.C .been) := by
  refine p.FABeen.ok scABeen (fun vs H Q E h => ?_) (fun cdv A outer s H vs Q E hr h => ?_)
  · obtain ⟨c, v, u, s, rfl, _⟩ := h
    rfl
  · obtain ⟨c, v, u, s, rfl, hc, wf, hlen, kk⟩ := h
    obtain ⟨dx, ho⟩ := hc.obj
    refine ⟨_, pss_cons (ps_set (i := 1) scABeen.nd rfl (Or.inl rfl) (pe_meth0 (pv 0) p.cl p.mBeen (ok_been p) hr (bBeen p) .nil pass0))
      (pss_one (ps_ret (pe_op op_cat (pe_lst (pa_cons (pe_callB call_len_seq (by rfl) p.n_len PySem.boot_len (pa_cons (pv 1) pa_nil)) pa_nil)) (pv 1)))), ?_⟩
    rw [st_been] at kk
    refine ⟨_, rfl, c, dx, _, rfl, ho, rfl, c, v, u, s, rfl, hc, wf, by omega, fun H1 b sm hb hb1 => ?_⟩
    refine ⟨_, rfl, b, _, rfl, .inl (SqL.of hb1), (by show 1 ≤ sizeLine; decide), fun a ha => ?_⟩
    have ba : b ≠ a := ne_of_none hb1 ha
    have hbl := bl_len s
    have h20 := wf.n20
    refine ⟨_, rfl, a, b, _, _, rfl, rfl, upd_same, (by rw [upd_ne ba]; exact hb1), ?_, fun q hq => ?_⟩
    · rw [List.length_map, sizeLine_eq]
      show 1 + (bl s).length ≤ _
      omega
    · have sm2 : Same H (upd H1 a (.lst [.int (((bl s).map fun (k : Nat) => V.int k).length : Nat)])) := fun b' o e => by
        rw [upd_ne (ne_of_none (sm b' o e) ha)]
        exact sm b' o e
      refine kk.lay (hc.same sm2) (fun b' o e _ _ _ => sm2 b' o e) hq ?_
      rw [List.length_map]
      show V.int _ :: _ = V.int _ :: ((bl s).map fun (k : Nat) => (k : Int)).map V.int
      rw [List.map_map]
      rfl
end
end LP
end

section
set_option Elab.async false
set_option linter.all false
set_option maxRecDepth 100000
set_option Elab.async false
set_option linter.all false
set_option maxRecDepth 100000
namespace LP
open PySem PySem.Spec PyProof.Rows L2 LM
/-- one call, by its number and the list of what stands behind it -/
def spAnswer (C : Addr) : Sp := fun vs H Q _ => ∃ (c v u g : Addr) (s : Ux07.St) (z : Int) (as : List Int), vs = [.ref c, .int z, .ref g] ∧ CellAt C H c v u s ∧ WF s ∧ PyUx07.shape z = some (as.length, 0) ∧ (∀ a ∈ as, inn a) ∧
  H g = some (.lst (as.map V.int)) ∧ s.calls.length ≤ 900000 ∧ Ans C H c v u (stp s (z :: as)) Q
/-- the whole list of calls -/
def spAnswers (K : PySem.W.Frag) : Sp := fun vs H Q _ => ∃ (a : Addr) (ns : List Int), vs = [.ref a] ∧ SqL K H a (ns.map V.int) ∧ OnlyF H ∧ ns.length ≤ 240 ∧ (∀ x ∈ ns, inn x) ∧ PyUx07.answers_asked ns = true ∧
  ∀ (H' : Hp) (q : Addr), H' q = some (.lst ((PyUx07.answers ns).map V.int)) → Q (.ref q) H'
theorem asked_short {l : List Int} (h : PyUx07.answers_asked l = true) : (PyUx07.answers l).length ≤ 10000000 := by
  unfold PyUx07.answers_asked at h
  cases e : PyFlat.calls PyUx07.shape l.length l with
  | none =>
    rw [e] at h
    cases h
  | some raw =>
    rw [e] at h
    dsimp only at h
    rw [Bool.and_eq_true] at h
    exact of_decide_eq_true h.2
/-- what is frozen stays a list that may be read -/
theorem frz_list {K : PySem.W.Frag} {H H' : Hp} {a : Addr} {xs : List V} (h : SqL K H a xs) (hO : OnlyF H) (k : ∀ b o t, H b = some (.frz o t) → H' b = some (.frz o t)) : SqL K H' a xs := by
  rcases h with (h | ⟨o, h⟩) | h
  · rcases hO a with z | ⟨o, t, z⟩
    · rw [z] at h; cases h
    · rw [z] at h; cases h
  · exact .inl (.inr ⟨o, k _ _ _ h⟩)
  · exact .inr h
theorem cut_is {ns : List Int} {i n : Nat} (h : i + 1 + n ≤ ns.length) : cutV (ns.map V.int) (some ((i : Int) + 1)) (some ((i : Int) + 1 + (n : Int))) = ((ns.drop (i + 1)).take n).map V.int := by
  unfold cutV
  have e1 : ((i : Int) + 1) = ((i + 1 : Nat) : Int) := rfl
  have e2 : ((i : Int) + 1 + (n : Int)) = ((i + 1 + n : Nat) : Int) := by omega
  rw [e2, e1, HT.sIx_nat, HT.sIx_nat, List.length_map, Nat.min_eq_left (by omega), Nat.min_eq_left (by omega), Nat.add_sub_cancel_left, List.map_take, List.map_drop]
/-- how far the walk through the list has come -/
structure JInv (C : Addr) (H H' : Hp) (c to : Addr) (ns : List Int) (i : Nat) : Prop where
  le : i ≤ ns.length
  ex : ∃ (f : Nat) (cs : List (List (List Int))) (s : Ux07.St) (tl : List Int) (v u : Addr), PyFlat.calls PyUx07.shape f (ns.drop i) = some cs ∧ PyUx07.answers ns = tl ++ due s cs ∧ CellAt C H' c v u s ∧ WF s ∧ s.calls.length ≤ 2000 * i ∧
    H' to = some (.lst (tl.map V.int)) ∧ to ≠ c ∧ to ≠ v ∧ to ≠ u
  fz : ∀ b o t, H b = some (.frz o t) → H' b = some (.frz o t)
def mu1 (n : Nat) : Option (Option V) → Nat
  | some (some (.int i)) => n - i.toNat
  | _ => 0
def mu (n : Nat) (σ : List (Option V)) : Nat := mu1 n (σ[3]?)
section
variable {P : Program} {w : World} {K : PySem.W.Frag} {mg : Str → Option Value} {base : Heap}
theorem ok_answers (p : Prg K mg) {wd : List V} (GA : FnOk P w K mg base CX0 5 p.fAnswer p.dAnswer PAnswer (spAnswer p.C)) (hW : ∀ H : Hp, SqT K H p.w_WIDTHS wd) (hwd : ∀ (z : Int) (n : Nat), PyUx07.shape z = some (n, 0) → atI wd z = some (.int (n : Nat))) :
    FnOk P w K mg base CX0 6 p.fAnswers p.dAnswers PAnswers (spAnswers K) := by
  refine p.FAnswers.ok scAnswers (fun vs H Q E h => ?_) (fun cdv A outer s H vs Q E hr h => ?_)
  · obtain ⟨a, ns, rfl, _⟩ := h
    rfl
  · obtain ⟨a, ns, rfl, hS, hO, hlen, hin, hask, kk⟩ := h
    obtain ⟨raw, hraw⟩ := asked_raw hask
    have hshort := asked_short hask
    refine ⟨_, pss_cons (ps_set (i := 1) scAnswers.nd rfl (Or.inl rfl) (pe_make0 ⟨p.makes, p.mInit.at_, p.mInit.fn, p.kc⟩ (ok_init p) (hr.mono (by decide)) rfl p.mgC (bInit p) .nil pass0))
      (pss_cons (ps_set (i := 2) scAnswers.nd rfl (Or.inl rfl) (pe_lst pa_nil))
      (pss_cons (ps_set (i := 3) scAnswers.nd rfl (Or.inl rfl) pe_int)
      (pss_cons (ps_while PassesOwn.never (pt_cmp (pc_lt (pv 3) (pe_callB call_len_seq (by rfl) p.n_len PySem.boot_len (pa_cons (pv 0) pa_nil))))
        (pss_cons (ps_set (i := 4) scAnswers.nd rfl (Or.inl rfl) (pe_ix ix_list (pv 0) (pv 3) (fun _ _ => rfl)))
        (pss_cons (ps_set (i := 5) scAnswers.nd rfl (Or.inl rfl) (pe_op op_add (pe_op op_add (pv 3) pe_int) (pe_ix ix_tup (pe_glob (v := .ref p.w_WIDTHS) rfl p.c_WIDTHS rfl) (pv 4) (fun _ _ => rfl))))
        (pss_cons (ps_set (i := 6) scAnswers.nd rfl (Or.inl rfl) (pe_call GA hr rfl p.gAnswer p.kAnswer (bAnswer p) .nil pass0 (pa_cons (pv 1) (pa_cons (pv 4) (pa_cons (pe_slice sl_list (pv 0) (po_some (pe_op op_add (pv 3) pe_int)) (po_some (pv 5))) pa_nil)))))
        (pss_cons (ps_expr (pe_bm PySem.F.plainAttrs_list PySem.F.slot_list_append PySem.F.type_list_append mt_append (pv 2) (pa_cons (pe_callB call_len_seq (by rfl) p.n_len PySem.boot_len (pa_cons (pv 6) pa_nil)) pa_nil)))
        (pss_cons (ps_expr (pe_bm PySem.F.plainAttrs_list PySem.F.slot_list_extend PySem.F.type_list_extend mt_extend (pv 2) (pa_cons (pv 6) pa_nil)))
        (pss_one (ps_set (i := 3) scAnswers.nd rfl (Or.inl rfl) (pv 5)))))))))
      (pss_one (ps_ret (pv 2)))))), ?_⟩
    intro c dc nc ndc nec
    refine ⟨c, dc, rfl, upd_same, fun H1 v u hc1 kp1 => ⟨rfl, ?_⟩⟩
    have fz1 : ∀ b o t, H b = some (.frz o t) → H1 b = some (.frz o t) := fun b o t e => by
      refine (kp1 b _ ?_ (ne_of_none e nc)).1
      rw [upd_ne (ne_of_none e nc), upd_ne (ne_of_none e ndc)]
      exact e
    refine ⟨by show 0 ≤ sizeLine; decide, fun to hto => ?_⟩
    have sm1 : Same H1 (upd H1 to (.lst [])) := fun b o e => by
      rw [upd_ne (ne_of_none e hto)]
      exact e
    obtain ⟨dx1, ho1⟩ := hc1.obj
    obtain ⟨as1, hv1, _⟩ := hc1.vis
    have J0 : JInv p.C H (upd H1 to (.lst [])) c to ns 0 :=
      ⟨Nat.zero_le _, ⟨ns.length, raw, Ux07.init, [], v, u, by rw [List.drop_zero]; exact hraw, answers_due hraw, hc1.same sm1, wf_init, Nat.zero_le _, upd_same, (ne_of_none ho1 hto).symm, (ne_of_none hv1 hto).symm, (ne_of_none hc1.tur hto).symm⟩,
        fun b o t e => sm1 _ _ (fz1 b o t e)⟩
    refine while_by (fun σ H' => ∃ (i : Nat) (x4 x5 x6 : Option V), σ = [some (.ref a), some (.ref c), some (.ref to), some (.int (i : Nat)), x4, x5, x6] ∧ JInv p.C H H' c to ns i) (fun σ _ => mu ns.length σ) ?_ ?_ ?_
    · exact ⟨0, none, none, none, rfl, J0⟩
    · rintro σ H' ⟨i, x4, x5, x6, rfl, J⟩
      have hA := frz_list hS hO J.fz
      refine ⟨_, rfl, _, rfl, a, _, rfl, .inl hA, _, _, rfl, rfl, _, rfl, ?_⟩
      refine ite2 (fun h1 => ?_) (fun h1 => ?_)
      · have h2 : (i : Int) < ((ns.map V.int).length : Nat) := of_decide_eq_true h1
        rw [List.length_map] at h2
        have hi : i < ns.length := by omega
        obtain ⟨f, cs, s, tl, v, u, hcs, hans, hc, wf, hcl, htl, n1, n2, n3⟩ := J.ex
        have hat : ns[i]? = some ns[i] := List.getElem?_eq_getElem hi
        have hdr : ns.drop i = ns[i] :: ns.drop (i + 1) := List.drop_eq_getElem_cons hi
        rw [hdr] at hcs
        obtain ⟨n, f', cs', hsh, hnl, hcs', rfl⟩ := next_call hcs
        generalize ns[i] = z at hat hsh hans
        rw [List.length_drop] at hnl
        have hasl : ((ns.drop (i + 1)).take n).length = n := by rw [List.length_take, List.length_drop]; omega
        have hsh2 : PyUx07.shape z = some (((ns.drop (i + 1)).take n).length, 0) := by rw [hasl]; exact hsh
        rw [due_cons hsh2] at hans
        have hin2 : ∀ x ∈ (ns.drop (i + 1)).take n, inn x := fun x hx => hin x (List.mem_of_mem_drop (List.mem_of_mem_take hx))
        refine ⟨_, rfl, _, rfl, a, _, _, _, rfl, rfl, hA, atI_nat (by rw [List.getElem?_map, hat]; rfl), ?_⟩
        refine ⟨_, rfl, _, _, rfl, rfl, _, rfl, p.w_WIDTHS, _, _, _, rfl, rfl, hW _, hwd z n hsh, _, _, rfl, rfl, ?_⟩
        refine ⟨_, rfl, _, rfl, _, rfl, _, rfl, _, _, rfl, rfl, _, rfl, _, rfl, _, rfl, a, _, rfl, hA, fun g hg => ?_⟩
        rw [cut_is (by omega)]
        have smg : Same H' (upd H' g (.lst (((ns.drop (i + 1)).take n).map V.int))) := fun b o e => by
          rw [upd_ne (ne_of_none e hg)]
          exact e
        have W2 := stp_wf wf (z :: (ns.drop (i + 1)).take n)
        refine ⟨c, v, u, g, s, z, (ns.drop (i + 1)).take n, rfl, hc.same smg, wf, hsh2, hin2, upd_same, by omega, ?_⟩
        intro H2 q v2 u2 hc2 hq hq2 kp2
        generalize hr2 : stp s (z :: (ns.drop (i + 1)).take n) = r2 at hans hc2 hq2 W2
        obtain ⟨s2, out⟩ := r2
        have htl2 := kp2 to _ (smg _ _ htl) n1 n2 n3
        have qto : to ≠ q := ne_of_none (smg _ _ htl) hq
        have hb : tl.length + (1 + out.length) ≤ 10000000 := by
          rw [hans] at hshort
          simp only [List.length_append, List.length_cons] at hshort
          omega
        have hout : (out.map V.int).length = out.length := List.length_map _
        refine ⟨_, rfl, .inl ⟨rfl, _, SqL.of htl2.1⟩, _, rfl, q, _, rfl, .inl (SqL.of hq2), to, _, _, rfl, rfl, htl2.1, ?_, ?_⟩
        · rw [List.length_map, sizeLine_eq]
          omega
        have t3 : (upd H2 to (.lst (tl.map V.int ++ [V.int ((out.map V.int).length : Nat)]))) to = some (.lst (tl.map V.int ++ [V.int ((out.map V.int).length : Nat)])) := upd_same
        have q3 : (upd H2 to (.lst (tl.map V.int ++ [V.int ((out.map V.int).length : Nat)]))) q = some (.lst (out.map V.int)) := by rw [upd_ne qto.symm]; exact hq2
        refine ⟨_, rfl, .inl ⟨rfl, _, SqL.of t3⟩, _, rfl, to, q, _, _, rfl, rfl, t3, q3, ?_, ?_⟩
        · rw [List.length_append, List.length_map, hout, sizeLine_eq]
          show tl.length + 1 + out.length ≤ _
          omega
        refine ⟨_, rfl, ⟨i + 1 + n, _, _, _, rfl, ⟨by omega, ⟨f', cs', s2, tl ++ (out.length : Int) :: out, v2, u2, ?_, ?_, ?_, W2.1, ?_, ?_, n1, htl2.2.1, htl2.2.2⟩, ?_⟩⟩, ?_⟩
        · rw [List.drop_drop] at hcs'
          exact hcs'
        · rw [hans, List.append_assoc]
          rfl
        · obtain ⟨dx2, ho2⟩ := hc2.obj
          obtain ⟨as2, hv2, hw2⟩ := hc2.vis
          have far : ∀ b, b ≠ to → (upd (upd H2 to (.lst (tl.map V.int ++ [V.int ((out.map V.int).length : Nat)]))) to (.lst (tl.map V.int ++ [V.int ((out.map V.int).length : Nat)] ++ out.map V.int))) b = H2 b := fun b hb => by rw [upd_ne hb, upd_ne hb]
          refine ⟨⟨dx2, ?_⟩, ⟨as2, ?_, hw2.keep fun b xs e => ?_⟩, ?_, hc2.vu⟩
          · rw [far _ n1.symm]
            exact ho2
          · rw [far _ htl2.2.1.symm]
            exact hv2
          · rw [far _ (ne_of e htl2.1 (by intro y; cases y))]
            exact e
          · rw [far _ htl2.2.2.symm]
            exact hc2.tur
        · have := W2.2
          dsimp only at this ⊢
          omega
        · rw [upd_same, hout, List.map_append, List.append_assoc]
          rfl
        · intro b o t e
          have e1 := J.fz b o t e
          obtain ⟨dx0, ho0⟩ := hc.obj
          obtain ⟨as0, hv0, _⟩ := hc.vis
          have b1 : b ≠ c := ne_of e1 ho0 (by intro y; cases y)
          have b2 : b ≠ v := ne_of e1 hv0 (by intro y; cases y)
          have b3 : b ≠ u := ne_of e1 hc.tur (by intro y; cases y)
          have b4 : b ≠ to := ne_of e1 htl (by intro y; cases y)
          rw [upd_ne b4, upd_ne b4]
          exact (kp2 b _ (smg _ _ e1) b1 b2 b3).1
        · show ns.length - ((i : Int) + 1 + (n : Int)).toNat < ns.length - ((i : Nat) : Int).toNat
          omega
      · have h2 : ¬ (i : Int) < ((ns.map V.int).length : Nat) := fun y => h1 (decide_eq_true y)
        rw [List.length_map] at h2
        have hi : i = ns.length := by have := J.le; omega
        obtain ⟨f, cs, s, tl, v, u, hcs, hans, hc, wf, hcl, htl, n1, n2, n3⟩ := J.ex
        rw [hi, List.drop_length] at hcs
        rw [no_calls hcs, due_nil, List.append_nil] at hans
        refine ⟨_, rfl, ?_⟩
        exact kk H' to (by rw [hans]; exact htl)
    · rintro σ H' Q1 Q2 hq ⟨v0, e0, v1, e1, p1, ys, e2, h3, i1, j1, e3, e4, b1, e5, h6⟩
      exact ⟨v0, e0, v1, e1, p1, ys, e2, h3, i1, j1, e3, e4, b1, e5, hq _ _ h6⟩
end
end LP
end

section
set_option Elab.async false
set_option linter.all false
set_option maxRecDepth 100000
set_option Elab.async false
set_option linter.all false
set_option maxRecDepth 100000
namespace LP
open PySem PySem.Spec PyProof.Rows L2 LM
theorem fl_extra (r : Ux07.Rule) : (1 : Int) - fl r.known = (Ux07.extra r : Int) := by
  unfold Ux07.extra
  cases r.known <;> rfl
theorem fl_le (b : Bool) : 0 ≤ fl b ∧ fl b ≤ 1 := by cases b <;> decide
/-! ### the promises: which goals are sure, which come, how many visits -/
def spLeast : Sp := fun vs H Q _ => ∃ n t k : Int, vs = [.int n, .int t, .int k] ∧ 0 ≤ t ∧ t ≤ 400 ∧ Q (.int ((n - 2) * t + (1 - k) + 1)) H
def spGreat : Sp := fun vs H Q _ => ∃ n t : Int, vs = [.int n, .int t] ∧ 0 ≤ t ∧ t ≤ 400 ∧ Q (.int ((n - 1) * t)) H
def spFewest : Sp := fun vs H Q _ => ∃ a b : Int, vs = [.int a, .int b] ∧ Q (.int (2 * a - b)) H
def spAllBeen (C : Addr) : Sp := fun vs H Q _ => ∃ (c v u : Addr) (s : Ux07.St), vs = [.ref c] ∧ CellAt C H c v u s ∧ WF s ∧ s.calls.length ≤ 1000000 ∧ ∀ H' : Hp, Same H H' → Q (.bl (Ux07.all s.rule s.calls)) H'
def spIsSure (C : Addr) : Sp := fun vs H Q _ => ∃ (c v u : Addr) (s : Ux07.St), vs = [.ref c] ∧ CellAt C H c v u s ∧ WF s ∧ Q (.bl (Ux07.sure s.rule)) H
def spIsComing (C : Addr) : Sp := fun vs H Q _ => ∃ (c v u : Addr) (s : Ux07.St), vs = [.ref c] ∧ CellAt C H c v u s ∧ WF s ∧ Q (.bl (Ux07.comes s.rule)) H
def spTillWrong (C : Addr) : Sp := fun vs H Q _ => ∃ (c v u : Addr) (s : Ux07.St), vs = [.ref c] ∧ CellAt C H c v u s ∧ WF s ∧ Q (.int (2 * (s.rule.c : Int) - (Ux07.extra s.rule : Int))) H
def spLeft (C : Addr) : Sp := fun vs H Q _ => ∃ (c v u : Addr) (s : Ux07.St), vs = [.ref c] ∧ CellAt C H c v u s ∧ WF s ∧ ∀ H' : Hp, Same H H' → Q (.int (Ux07.can s.rule (Ux07.now s) : Nat)) H'
def spCanSaid (C : Addr) : Sp := fun vs H Q _ => ∃ (c v u : Addr) (s : Ux07.St), vs = [.ref c] ∧ CellAt C H c v u s ∧ WF s ∧
  ∀ H' : Hp, Same H H' → Q (.bl (decide ((s.rule.c : Int) ≤ ((Ux07.now s).count : Int) + fl (Ux07.now s).lamp + (Ux07.can s.rule (Ux07.now s) : Int)))) H'
def spTillSaid (C : Addr) : Sp := fun vs H Q _ => ∃ (c v u : Addr) (s : Ux07.St), vs = [.ref c] ∧ CellAt C H c v u s ∧ WF s ∧ Q (.int (2 * ((s.rule.c : Int) - ((Ux07.now s).count : Int)) - fl (Ux07.now s).lamp)) H
/-! ### the numbers alone -/
theorem least_is {s : Ux07.St} (wf : WF s) : ((s.rule.n : Int) - 2) * (s.rule.t : Int) + (1 - fl s.rule.known) + 1 = ((lo s.rule + 1 : Nat) : Int) := by
  rw [fl_extra]
  have h2 := wf.n2
  have e : (((s.rule.n - 2) * s.rule.t : Nat) : Int) = ((s.rule.n : Int) - 2) * (s.rule.t : Int) := by rw [Int.natCast_mul, Int.natCast_sub h2]; rfl
  unfold LM.lo
  rw [← e]
  omega
theorem great_is {s : Ux07.St} (wf : WF s) : ((s.rule.n : Int) - 1) * (s.rule.t : Int) = (hi s.rule : Int) := by
  have h2 := wf.n2
  unfold LM.hi
  rw [Int.natCast_mul, Int.natCast_sub (by omega)]
  rfl
theorem sum_cast : ∀ l : List Nat, (l.map fun (k : Nat) => (k : Int)).sum = ((l.sum : Nat) : Int)
  | [] => rfl
  | x :: l => by
    rw [List.map_cons, List.sum_cons, List.sum_cons, sum_cast l, Int.natCast_add]
theorem cut_two (l : List Nat) : cutV (tv l) (some (1 + 1)) none = ((l.drop 1).map fun (k : Nat) => (k : Int)).map V.int := by
  have e : ((1 : Int) + 1) = ((2 : Nat) : Int) := rfl
  unfold cutV
  rw [e, HT.sIx_nat, HT.sIx_none]
  unfold tv
  rw [List.length_cons, List.length_map, List.map_map]
  cases l with
  | nil => rfl
  | cons x l =>
    rw [List.length_cons, Nat.min_eq_left (by omega)]
    show ((l.map fun (k : Nat) => V.int k)).take _ = _
    rw [List.take_of_length_le (by rw [List.length_map]; omega)]
    rfl
section
variable {P : Program} {w : World} {K : PySem.W.Frag} {mg : Str → Option Value} {base : Heap}
theorem ok_least (p : Prg K mg) : FnOk P w K mg base CX0 1 p.fLeast p.dLeast PLeast spLeast := by
  refine p.FLeast.ok scLeast (fun vs H Q E h => ?_) (fun cdv A outer s H vs Q E hr h => ?_)
  · obtain ⟨n, t, k, rfl, _⟩ := h
    rfl
  · obtain ⟨n, t, k, rfl, h1, h2, kk⟩ := h
    refine ⟨_, pss_cons (ps_set (i := 3) scLeast.nd rfl (Or.inl rfl) (pe_op op_mul (pe_op op_sub (pv 0) pe_int) (pv 1)))
      (pss_cons (ps_set (i := 4) scLeast.nd rfl (Or.inl rfl) (pe_op op_sub pe_int (pv 2)))
      (pss_one (ps_ret (pe_op op_add (pe_op op_add (pv 3) (pv 4)) pe_int)))), ?_⟩
    refine ⟨_, rfl, _, _, rfl, rfl, _, rfl, _, _, rfl, rfl, .inr ⟨by omega, by omega⟩, ?_⟩
    refine ⟨_, rfl, _, _, rfl, rfl, ?_⟩
    exact ⟨_, rfl, _, rfl, _, _, rfl, rfl, _, _, rfl, rfl, kk⟩
theorem ok_great (p : Prg K mg) : FnOk P w K mg base CX0 1 p.fGreat p.dGreat PGreat spGreat := by
  refine p.FGreat.ok scGreat (fun vs H Q E h => ?_) (fun cdv A outer s H vs Q E hr h => ?_)
  · obtain ⟨n, t, rfl, _⟩ := h
    rfl
  · obtain ⟨n, t, rfl, h1, h2, kk⟩ := h
    refine ⟨_, pss_one (ps_ret (pe_op op_mul (pe_op op_sub (pv 0) pe_int) (pv 1))), ?_⟩
    exact ⟨_, rfl, _, _, rfl, rfl, _, rfl, _, _, rfl, rfl, .inr ⟨by omega, by omega⟩, kk⟩
theorem ok_fewest (p : Prg K mg) : FnOk P w K mg base CX0 1 p.fFewest p.dFewest PFewest spFewest := by
  refine p.FFewest.ok scFewest (fun vs H Q E h => ?_) (fun cdv A outer s H vs Q E hr h => ?_)
  · obtain ⟨a, b, rfl, _⟩ := h
    rfl
  · obtain ⟨a, b, rfl, kk⟩ := h
    refine ⟨_, pss_one (ps_ret (pe_op op_sub (pe_op op_mul pe_int (pv 0)) (pv 1))), ?_⟩
    exact ⟨_, rfl, _, _, rfl, rfl, .inl ⟨by decide, by decide⟩, _, rfl, _, _, rfl, rfl, kk⟩
/-! ### the cell's own -/
theorem ok_allbeen (p : Prg K mg) : FnOk P w K mg base CX0 2 p.fAllBeen p.dAllBeen PAllBeen (spAllBeen p.C) := by
  refine p.FAllBeen.ok scAllBeen (fun vs H Q E h => ?_) (fun cdv A outer s H vs Q E hr h => ?_)
  · obtain ⟨c, v, u, s, rfl, _⟩ := h
    rfl
  · obtain ⟨c, v, u, s, rfl, hc, wf, hlen, kk⟩ := h
    obtain ⟨dx, ho⟩ := hc.obj
    refine ⟨_, pss_one (ps_ret (pe_cmp (pc_eqI (pe_callB call_len_seq (by rfl) p.n_len PySem.boot_len (pa_cons (pe_meth0 (pv 0) p.cl p.mBeen (ok_been p) hr (bBeen p) .nil pass0) pa_nil)) (pe_fld (pv 0) rfl)))), ?_⟩
    refine ⟨_, rfl, c, dx, _, rfl, ho, rfl, c, v, u, s, rfl, hc, wf, hlen, fun H1 b sm hb hb1 => ?_⟩
    refine ⟨b, _, rfl, .inl (SqL.of hb1), _, rfl, c, p.C, dx, _, _, rfl, sm _ _ ho, p.cl, p.a_people, rfl, _, _, rfl, rfl, ?_⟩
    have e : decide ((((bl s).map fun (k : Nat) => V.int k).length : Int) = (s.rule.n : Int)) = Ux07.all s.rule s.calls := by
      rw [all_is, List.length_map]
      exact decide_eq_decide.mpr ⟨fun q => Int.ofNat_inj.mp q, fun q => Int.ofNat_inj.mpr q⟩
    have k := kk H1 sm
    rw [← e] at k
    exact k
theorem ok_issure (p : Prg K mg) : FnOk P w K mg base CX0 2 p.fIsSure p.dIsSure PIsSure (spIsSure p.C) := by
  refine p.FIsSure.ok scIsSure (fun vs H Q E h => ?_) (fun cdv A outer s H vs Q E hr h => ?_)
  · obtain ⟨c, v, u, s, rfl, _⟩ := h
    rfl
  · obtain ⟨c, v, u, s, rfl, hc, wf, kk⟩ := h
    obtain ⟨dx, ho⟩ := hc.obj
    have ht := wf.t20
    refine ⟨_, pss_one (ps_ret (pe_cmp (pc_ge (pe_fld (pv 0) rfl) (pe_call (ok_least p) hr rfl p.gLeast p.kLeast (bLeast p) .nil pass0 (pa_cons (pe_fld (pv 0) rfl) (pa_cons (pe_fld (pv 0) rfl) (pa_cons (pe_fld (pv 0) rfl) pa_nil))))))), ?_⟩
    refine ⟨_, rfl, c, p.C, dx, _, _, rfl, ho, p.cl, p.a_goal, rfl, _, rfl, c, p.C, dx, _, _, rfl, ho, p.cl, p.a_people, rfl, _, rfl, c, p.C, dx, _, _, rfl, ho, p.cl, p.a_times, rfl, _, rfl, c, p.C, dx, _, _, rfl, ho, p.cl, p.a_known, rfl,
      _, _, _, rfl, by omega, by omega, _, _, rfl, rfl, ?_⟩
    have e : decide (((s.rule.n : Int) - 2) * (s.rule.t : Int) + (1 - fl s.rule.known) + 1 ≤ (s.rule.c : Int)) = Ux07.sure s.rule := by
      rw [least_is wf]
      exact decide_eq_decide.mpr ⟨fun q => by unfold LM.lo at q; omega, fun q => by unfold LM.lo; omega⟩
    rw [← e] at kk
    exact kk
theorem ok_iscoming (p : Prg K mg) : FnOk P w K mg base CX0 2 p.fIsComing p.dIsComing PIsComing (spIsComing p.C) := by
  refine p.FIsComing.ok scIsComing (fun vs H Q E h => ?_) (fun cdv A outer s H vs Q E hr h => ?_)
  · obtain ⟨c, v, u, s, rfl, _⟩ := h
    rfl
  · obtain ⟨c, v, u, s, rfl, hc, wf, kk⟩ := h
    obtain ⟨dx, ho⟩ := hc.obj
    have ht := wf.t20
    refine ⟨_, pss_one (ps_ret (pe_cmp (pc_le (pe_fld (pv 0) rfl) (pe_call (ok_great p) hr rfl p.gGreat p.kGreat (bGreat p) .nil pass0 (pa_cons (pe_fld (pv 0) rfl) (pa_cons (pe_fld (pv 0) rfl) pa_nil)))))), ?_⟩
    refine ⟨_, rfl, c, p.C, dx, _, _, rfl, ho, p.cl, p.a_goal, rfl, _, rfl, c, p.C, dx, _, _, rfl, ho, p.cl, p.a_people, rfl, _, rfl, c, p.C, dx, _, _, rfl, ho, p.cl, p.a_times, rfl,
      _, _, rfl, by omega, by omega, _, _, rfl, rfl, ?_⟩
    have e : decide ((s.rule.c : Int) ≤ ((s.rule.n : Int) - 1) * (s.rule.t : Int)) = Ux07.comes s.rule := by
      rw [great_is wf]
      exact decide_eq_decide.mpr ⟨fun q => by unfold LM.hi at q; omega, fun q => by unfold LM.hi; omega⟩
    rw [← e] at kk
    exact kk
theorem ok_tillwrong (p : Prg K mg) : FnOk P w K mg base CX0 2 p.fTillWrong p.dTillWrong PTillWrong (spTillWrong p.C) := by
  refine p.FTillWrong.ok scTillWrong (fun vs H Q E h => ?_) (fun cdv A outer s H vs Q E hr h => ?_)
  · obtain ⟨c, v, u, s, rfl, _⟩ := h
    rfl
  · obtain ⟨c, v, u, s, rfl, hc, wf, kk⟩ := h
    obtain ⟨dx, ho⟩ := hc.obj
    refine ⟨_, pss_one (ps_ret (pe_call (ok_fewest p) hr rfl p.gFewest p.kFewest (bFewest p) .nil pass0 (pa_cons (pe_fld (pv 0) rfl) (pa_cons (pe_op op_sub pe_int (pe_fld (pv 0) rfl)) pa_nil)))), ?_⟩
    refine ⟨_, rfl, c, p.C, dx, _, _, rfl, ho, p.cl, p.a_goal, rfl, _, rfl, c, p.C, dx, _, _, rfl, ho, p.cl, p.a_known, rfl, _, _, rfl, rfl, _, _, rfl, ?_⟩
    rw [← fl_extra] at kk
    exact kk
theorem ok_left (p : Prg K mg) : FnOk P w K mg base CX0 1 p.fLeft p.dLeft PLeft (spLeft p.C) := by
  refine p.FLeft.ok scLeft (fun vs H Q E h => ?_) (fun cdv A outer s H vs Q E hr h => ?_)
  · obtain ⟨c, v, u, s, rfl, _⟩ := h
    rfl
  · obtain ⟨c, v, u, s, rfl, hc, wf, kk⟩ := h
    obtain ⟨dx, ho⟩ := hc.obj
    have ht := wf.t20
    refine ⟨_, pss_one (ps_ret (pe_op op_sub (pe_op op_mul (pe_op op_sub (pe_fld (pv 0) rfl) pe_int) (pe_fld (pv 0) rfl))
      (pe_callB (cr_sum rfl) (by rfl) p.n_sum PyProof.Rows.boot_sum (pa_cons (pe_slice sl_list (pe_fld (pv 0) rfl) (po_some (pe_op op_add (pe_glob (v := .int 1) rfl p.c_COUNTER ⟨_, rfl⟩) pe_int)) po_none) pa_nil)))), ?_⟩
    refine ⟨_, rfl, c, p.C, dx, _, _, rfl, ho, p.cl, p.a_people, rfl, _, _, rfl, rfl, _, rfl, c, p.C, dx, _, _, rfl, ho, p.cl, p.a_times, rfl, _, _, rfl, rfl, .inr ⟨by omega, by omega⟩, ?_⟩
    refine ⟨_, rfl, c, p.C, dx, _, _, rfl, ho, p.cl, p.a_turns, rfl, _, _, rfl, rfl, _, rfl, u, _, rfl, SqL.of hc.tur, fun q hq => ?_⟩
    refine ⟨q, ((Ux07.now s).turns.drop 1).map fun (k : Nat) => (k : Int), rfl, SqL.of (by rw [upd_same]; exact congrArg (fun x => some (HO.lst x)) (cut_two _)), _, _, rfl, rfl, ?_⟩
    have k := kk (upd H q (.lst (cutV (tv (Ux07.now s).turns) (some (1 + 1)) none))) fun b o e => by
      rw [upd_ne (ne_of_none e hq)]
      exact e
    have e : ((s.rule.n : Int) - 1) * (s.rule.t : Int) - (((Ux07.now s).turns.drop 1).map fun (k : Nat) => (k : Int)).sum = ((Ux07.can s.rule (Ux07.now s) : Nat) : Int) := by
      have h := wf.can
      rw [great_is wf, sum_cast]
      unfold LM.hi
      omega
    rw [← e] at k
    exact k
theorem ok_cansaid (p : Prg K mg) : FnOk P w K mg base CX0 2 p.fCanSaid p.dCanSaid PCanSaid (spCanSaid p.C) := by
  refine p.FCanSaid.ok scCanSaid (fun vs H Q E h => ?_) (fun cdv A outer s H vs Q E hr h => ?_)
  · obtain ⟨c, v, u, s, rfl, _⟩ := h
    rfl
  · obtain ⟨c, v, u, s, rfl, hc, wf, kk⟩ := h
    obtain ⟨dx, ho⟩ := hc.obj
    refine ⟨_, pss_one (ps_ret (pe_cmp (pc_ge (pe_op op_add (pe_op op_add (pe_meth0 (pv 0) p.cl p.mCounted (ok_counted p) hr (bCounted p) .nil pass0) (pe_fld (pv 0) rfl)) (pe_meth0 (pv 0) p.cl p.mLeft (ok_left p) hr (bLeft p) .nil pass0)) (pe_fld (pv 0) rfl)))), ?_⟩
    refine ⟨_, rfl, c, dx, _, rfl, ho, rfl, c, v, u, s, rfl, hc, wf, _, rfl, c, p.C, dx, _, _, rfl, ho, p.cl, p.a_lamp, rfl, _, _, rfl, rfl, _, rfl, c, dx, _, rfl, ho, rfl, c, v, u, s, rfl, hc, wf, fun H1 sm => ?_⟩
    exact ⟨_, _, rfl, rfl, _, rfl, c, p.C, dx, _, _, rfl, sm _ _ ho, p.cl, p.a_goal, rfl, _, _, rfl, rfl, kk H1 sm⟩
theorem ok_tillsaid (p : Prg K mg) : FnOk P w K mg base CX0 2 p.fTillSaid p.dTillSaid PTillSaid (spTillSaid p.C) := by
  refine p.FTillSaid.ok scTillSaid (fun vs H Q E h => ?_) (fun cdv A outer s H vs Q E hr h => ?_)
  · obtain ⟨c, v, u, s, rfl, _⟩ := h
    rfl
  · obtain ⟨c, v, u, s, rfl, hc, wf, kk⟩ := h
    obtain ⟨dx, ho⟩ := hc.obj
    refine ⟨_, pss_one (ps_ret (pe_call (ok_fewest p) hr rfl p.gFewest p.kFewest (bFewest p) .nil pass0 (pa_cons (pe_op op_sub (pe_fld (pv 0) rfl) (pe_meth0 (pv 0) p.cl p.mCounted (ok_counted p) hr (bCounted p) .nil pass0)) (pa_cons (pe_fld (pv 0) rfl) pa_nil)))), ?_⟩
    exact ⟨_, rfl, c, p.C, dx, _, _, rfl, ho, p.cl, p.a_goal, rfl, _, rfl, c, dx, _, rfl, ho, rfl, c, v, u, s, rfl, hc, wf, _, _, rfl, rfl, _, rfl, c, p.C, dx, _, _, rfl, ho, p.cl, p.a_lamp, rfl, _, _, rfl, kk⟩
end
end LP
end

section
set_option Elab.async false
set_option linter.all false
set_option maxRecDepth 100000
set_option Elab.async false
set_option linter.all false
set_option maxRecDepth 100000
namespace LP
open PySem PySem.Spec PyProof.Rows L2 LM
theorem st_right (s : Ux07.St) : Ux07.step s .right = (s, if Ux07.over s = false then [-6] else Ux07.ints [Ux07.flag (Ux07.all s.rule s.calls)]) := rfl
theorem st_sure (s : Ux07.St) : Ux07.step s .sure = (s, Ux07.ints [Ux07.flag (Ux07.sure s.rule)]) := rfl
theorem st_comes (s : Ux07.St) : Ux07.step s .comes = (s, Ux07.ints [Ux07.flag (Ux07.comes s.rule)]) := rfl
theorem st_numbers (s : Ux07.St) : Ux07.step s .numbers = (s, Ux07.ints [(Ux07.numbers s.rule).length, (Ux07.numbers s.rule).headD 0, (Ux07.numbers s.rule).getLastD 0]) := rfl
theorem st_wrong (s : Ux07.St) : Ux07.step s .wrong = (s, Ux07.orNone (if Ux07.sure s.rule = true then none else some (2 * s.rule.c - Ux07.extra s.rule))) := rfl
theorem st_soon (s : Ux07.St) : Ux07.step s .soon = (s, if Ux07.over s = true then [-9] else Ux07.orNone (if Ux07.flag (Ux07.now s).lamp + Ux07.can s.rule (Ux07.now s) < s.rule.c - (Ux07.now s).count then none else some (2 * (s.rule.c - (Ux07.now s).count) - Ux07.flag (Ux07.now s).lamp))) := rfl
theorem CellAt.keepS {C : Addr} {H H' : Hp} {c v u : Addr} {s : Ux07.St} (h : CellAt C H c v u s) (k : Same H H') : Keep H H' c v u := fun b o e _ _ _ => k b o e
section
variable {P : Program} {w : World} {K : PySem.W.Frag} {mg : Str → Option Value} {base : Heap}
theorem ok_aright (p : Prg K mg) : FnOk P w K mg base CX0 3 p.fARight p.dARight PARight (spA0 p.C .right) := by
  refine p.FARight.ok scARight (fun vs H Q E h => ?_) (fun cdv A outer s H vs Q E hr h => ?_)
  · obtain ⟨c, v, u, s, rfl, _⟩ := h
    rfl
  · obtain ⟨c, v, u, s, rfl, hc, wf, hlen, kk⟩ := h
    obtain ⟨dx, ho⟩ := hc.obj
    refine ⟨_, pss_cons (ps_if (pt_not (pt_val (pe_meth0 (pv 0) p.cl p.mSaid (ok_said p) hr (bSaid p) .nil pass0))) (pss_one (ps_ret (pe_lst (pa_cons (pe_glob (v := .int (-6)) rfl p.c_NOT_SAID ⟨_, rfl⟩) pa_nil)))) pss_nil)
      (pss_one (ps_ret (pe_lst (pa_cons (pe_call (ok_asnum p) (hr.mono (by decide)) rfl p.gAsNum p.kAsNum (bAsNum p) .nil pass0 (pa_cons (pe_meth0 (pv 0) p.cl p.mAllBeen (ok_allbeen p) hr (bAllBeen p) .nil pass0) pa_nil)) pa_nil)))), ?_⟩
    rw [st_right] at kk
    refine ⟨_, rfl, c, dx, _, rfl, ho, rfl, c, v, u, s, rfl, hc, wf, _, rfl, ?_⟩
    cases ho2 : Ux07.over s with
    | false =>
      rw [ho2, if_pos rfl] at kk
      exact iteT ⟨by show 1 ≤ sizeLine; decide, fun q hq => kk.lay hc (Keep.refl H c v u) hq rfl⟩
    | true =>
      rw [ho2, if_neg (by decide)] at kk
      refine iteF ⟨_, rfl, c, dx, _, rfl, ho, rfl, c, v, u, s, rfl, hc, wf, by omega, fun H1 sm => ?_⟩
      exact ⟨_, rfl, by show 1 ≤ sizeLine; decide, fun q hq => kk.lay (hc.same sm) (hc.keepS sm) hq rfl⟩
theorem ok_asure (p : Prg K mg) : FnOk P w K mg base CX0 3 p.fASure p.dASure PASure (spA0 p.C .sure) := by
  refine p.FASure.ok scASure (fun vs H Q E h => ?_) (fun cdv A outer s H vs Q E hr h => ?_)
  · obtain ⟨c, v, u, s, rfl, _⟩ := h
    rfl
  · obtain ⟨c, v, u, s, rfl, hc, wf, hlen, kk⟩ := h
    obtain ⟨dx, ho⟩ := hc.obj
    refine ⟨_, pss_one (ps_ret (pe_lst (pa_cons (pe_call (ok_asnum p) (hr.mono (by decide)) rfl p.gAsNum p.kAsNum (bAsNum p) .nil pass0 (pa_cons (pe_meth0 (pv 0) p.cl p.mIsSure (ok_issure p) hr (bIsSure p) .nil pass0) pa_nil)) pa_nil))), ?_⟩
    rw [st_sure] at kk
    exact ⟨_, rfl, c, dx, _, rfl, ho, rfl, c, v, u, s, rfl, hc, wf, _, rfl, by show 1 ≤ sizeLine; decide, fun q hq => kk.lay hc (Keep.refl H c v u) hq rfl⟩
theorem ok_acomes (p : Prg K mg) : FnOk P w K mg base CX0 3 p.fAComes p.dAComes PAComes (spA0 p.C .comes) := by
  refine p.FAComes.ok scAComes (fun vs H Q E h => ?_) (fun cdv A outer s H vs Q E hr h => ?_)
  · obtain ⟨c, v, u, s, rfl, _⟩ := h
    rfl
  · obtain ⟨c, v, u, s, rfl, hc, wf, hlen, kk⟩ := h
    obtain ⟨dx, ho⟩ := hc.obj
    refine ⟨_, pss_one (ps_ret (pe_lst (pa_cons (pe_call (ok_asnum p) (hr.mono (by decide)) rfl p.gAsNum p.kAsNum (bAsNum p) .nil pass0 (pa_cons (pe_meth0 (pv 0) p.cl p.mIsComing (ok_iscoming p) hr (bIsComing p) .nil pass0) pa_nil)) pa_nil))), ?_⟩
    rw [st_comes] at kk
    exact ⟨_, rfl, c, dx, _, rfl, ho, rfl, c, v, u, s, rfl, hc, wf, _, rfl, by show 1 ≤ sizeLine; decide, fun q hq => kk.lay hc (Keep.refl H c v u) hq rfl⟩
theorem ok_anumbers (p : Prg K mg) : FnOk P w K mg base CX0 2 p.fANumbers p.dANumbers PANumbers (spA0 p.C .numbers) := by
  refine p.FANumbers.ok scANumbers (fun vs H Q E h => ?_) (fun cdv A outer s H vs Q E hr h => ?_)
  · obtain ⟨c, v, u, s, rfl, _⟩ := h
    rfl
  · obtain ⟨c, v, u, s, rfl, hc, wf, hlen, kk⟩ := h
    obtain ⟨dx, ho⟩ := hc.obj
    have ht := wf.t20
    have h2 := wf.n2
    have hl := hi_lo h2
    refine ⟨_, pss_cons (ps_set (i := 1) scANumbers.nd rfl (Or.inl rfl) (pe_call (ok_least p) hr rfl p.gLeast p.kLeast (bLeast p) .nil pass0 (pa_cons (pe_fld (pv 0) rfl) (pa_cons (pe_fld (pv 0) rfl) (pa_cons (pe_fld (pv 0) rfl) pa_nil)))))
      (pss_cons (ps_set (i := 2) scANumbers.nd rfl (Or.inl rfl) (pe_call (ok_great p) hr rfl p.gGreat p.kGreat (bGreat p) .nil pass0 (pa_cons (pe_fld (pv 0) rfl) (pa_cons (pe_fld (pv 0) rfl) pa_nil))))
      (pss_cons (ps_if (pt_cmp (pc_gt (pv 1) (pv 2))) (pss_one (ps_ret (pe_lst (pa_cons pe_int (pa_cons pe_int (pa_cons pe_int pa_nil)))))) pss_nil)
      (pss_one (ps_ret (pe_lst (pa_cons (pe_op op_add (pe_op op_sub (pv 2) (pv 1)) pe_int) (pa_cons (pv 1) (pa_cons (pv 2) pa_nil)))))))), ?_⟩
    rw [st_numbers] at kk
    refine ⟨_, rfl, c, p.C, dx, _, _, rfl, ho, p.cl, p.a_people, rfl, _, rfl, c, p.C, dx, _, _, rfl, ho, p.cl, p.a_times, rfl, _, rfl, c, p.C, dx, _, _, rfl, ho, p.cl, p.a_known, rfl, _, _, _, rfl, by omega, by omega, ?_⟩
    refine ⟨_, rfl, c, p.C, dx, _, _, rfl, ho, p.cl, p.a_people, rfl, _, rfl, c, p.C, dx, _, _, rfl, ho, p.cl, p.a_times, rfl, _, _, rfl, by omega, by omega, ?_⟩
    rw [least_is wf, great_is wf]
    refine ⟨_, rfl, _, rfl, _, _, rfl, rfl, _, rfl, ite2 (fun h1 => ?_) (fun h1 => ?_)⟩
    · have h3 : (hi s.rule : Int) < ((lo s.rule + 1 : Nat) : Int) := of_decide_eq_true h1
      rw [numbers_none h2 (by omega)] at kk
      exact ⟨by show 3 ≤ sizeLine; decide, fun q hq => kk.lay hc (Keep.refl H c v u) hq rfl⟩
    · have h3 : ¬ (hi s.rule : Int) < ((lo s.rule + 1 : Nat) : Int) := fun y => h1 (decide_eq_true y)
      have h4 : Ux07.extra s.rule < s.rule.t := by omega
      rw [numbers_len h2, numbers_head h2 h4, numbers_last h2 h4] at kk
      refine ⟨_, rfl, _, rfl, _, _, rfl, rfl, _, _, rfl, rfl, _, rfl, _, rfl, by show 3 ≤ sizeLine; decide, fun q hq => kk.lay hc (Keep.refl H c v u) hq ?_⟩
      have e : (hi s.rule : Int) - ((lo s.rule + 1 : Nat) : Int) + 1 = ((s.rule.t - Ux07.extra s.rule : Nat) : Int) := by omega
      show [V.int ((hi s.rule : Int) - ((lo s.rule + 1 : Nat) : Int) + 1), V.int ((lo s.rule + 1 : Nat) : Int), V.int (hi s.rule : Int)] = _
      rw [e]
      rfl
theorem ok_awrong (p : Prg K mg) : FnOk P w K mg base CX0 3 p.fAWrong p.dAWrong PAWrong (spA0 p.C .wrong) := by
  refine p.FAWrong.ok scAWrong (fun vs H Q E h => ?_) (fun cdv A outer s H vs Q E hr h => ?_)
  · obtain ⟨c, v, u, s, rfl, _⟩ := h
    rfl
  · obtain ⟨c, v, u, s, rfl, hc, wf, hlen, kk⟩ := h
    obtain ⟨dx, ho⟩ := hc.obj
    refine ⟨_, pss_cons (ps_if (pt_val (pe_meth0 (pv 0) p.cl p.mIsSure (ok_issure p) hr (bIsSure p) .nil pass0)) (pss_one (ps_ret (pe_lst (pa_cons (pe_glob (v := .int (-6)) rfl p.c_NOT_SAID ⟨_, rfl⟩) pa_nil)))) pss_nil)
      (pss_one (ps_ret (pe_lst (pa_cons (pe_meth0 (pv 0) p.cl p.mTillWrong (ok_tillwrong p) hr (bTillWrong p) .nil pass0) pa_nil)))), ?_⟩
    rw [st_wrong] at kk
    refine ⟨_, rfl, c, dx, _, rfl, ho, rfl, c, v, u, s, rfl, hc, wf, _, rfl, ?_⟩
    cases hs : Ux07.sure s.rule with
    | true =>
      rw [hs, if_pos rfl] at kk
      exact iteT ⟨by show 1 ≤ sizeLine; decide, fun q hq => kk.lay hc (Keep.refl H c v u) hq rfl⟩
    | false =>
      rw [hs, if_neg (by decide)] at kk
      refine iteF ⟨_, rfl, c, dx, _, rfl, ho, rfl, c, v, u, s, rfl, hc, wf, by show 1 ≤ sizeLine; decide, fun q hq => kk.lay hc (Keep.refl H c v u) hq ?_⟩
      have h1 := wf.c1
      have h2 := extra_le s.rule
      have e : 2 * (s.rule.c : Int) - (Ux07.extra s.rule : Int) = ((2 * s.rule.c - Ux07.extra s.rule : Nat) : Int) := by omega
      rw [e]
      rfl
theorem ok_asoon (p : Prg K mg) : FnOk P w K mg base CX0 3 p.fASoon p.dASoon PASoon (spA0 p.C .soon) := by
  refine p.FASoon.ok scASoon (fun vs H Q E h => ?_) (fun cdv A outer s H vs Q E hr h => ?_)
  · obtain ⟨c, v, u, s, rfl, _⟩ := h
    rfl
  · obtain ⟨c, v, u, s, rfl, hc, wf, hlen, kk⟩ := h
    obtain ⟨dx, ho⟩ := hc.obj
    refine ⟨_, pss_cons (ps_if (pt_val (pe_meth0 (pv 0) p.cl p.mSaid (ok_said p) hr (bSaid p) .nil pass0)) (pss_one (ps_ret (pe_lst (pa_cons (pe_glob (v := .int (-9)) rfl p.c_ALREADY_SAID ⟨_, rfl⟩) pa_nil)))) pss_nil)
      (pss_cons (ps_if (pt_not (pt_val (pe_meth0 (pv 0) p.cl p.mCanSaid (ok_cansaid p) hr (bCanSaid p) .nil pass0))) (pss_one (ps_ret (pe_lst (pa_cons (pe_glob (v := .int (-6)) rfl p.c_NOT_SAID ⟨_, rfl⟩) pa_nil)))) pss_nil)
      (pss_one (ps_ret (pe_lst (pa_cons (pe_meth0 (pv 0) p.cl p.mTillSaid (ok_tillsaid p) hr (bTillSaid p) .nil pass0) pa_nil))))), ?_⟩
    rw [st_soon] at kk
    have hcnt := wf.cnt
    refine ⟨_, rfl, c, dx, _, rfl, ho, rfl, c, v, u, s, rfl, hc, wf, _, rfl, ?_⟩
    cases ho2 : Ux07.over s with
    | true =>
      rw [ho2, if_pos rfl] at kk
      exact iteT ⟨by show 1 ≤ sizeLine; decide, fun q hq => kk.lay hc (Keep.refl H c v u) hq rfl⟩
    | false =>
      rw [ho2, if_neg (by decide)] at kk
      have hno : ¬ s.rule.c ≤ (Ux07.now s).count := of_decide_eq_false (show decide (s.rule.c ≤ (Ux07.now s).count) = false from ho2)
      refine iteF ⟨_, rfl, c, dx, _, rfl, ho, rfl, c, v, u, s, rfl, hc, wf, fun H1 sm => ⟨_, rfl, ?_⟩⟩
      have hfl : fl (Ux07.now s).lamp = ((Ux07.flag (Ux07.now s).lamp : Nat) : Int) := rfl
      have hf1 : Ux07.flag (Ux07.now s).lamp ≤ 1 := by cases (Ux07.now s).lamp <;> decide
      cases hk : decide ((s.rule.c : Int) ≤ ((Ux07.now s).count : Int) + fl (Ux07.now s).lamp + (Ux07.can s.rule (Ux07.now s) : Int)) with
      | false =>
        have h3 := of_decide_eq_false hk
        rw [hfl] at h3
        rw [if_pos (by omega)] at kk
        exact iteT ⟨by show 1 ≤ sizeLine; decide, fun q hq => kk.lay (hc.same sm) (hc.keepS sm) hq rfl⟩
      | true =>
        have h3 := of_decide_eq_true hk
        rw [hfl] at h3
        rw [if_neg (by omega)] at kk
        refine iteF ⟨_, rfl, c, dx, _, rfl, sm _ _ ho, rfl, c, v, u, s, rfl, hc.same sm, wf, by show 1 ≤ sizeLine; decide, fun q hq => kk.lay (hc.same sm) (hc.keepS sm) hq ?_⟩
        have e : 2 * ((s.rule.c : Int) - ((Ux07.now s).count : Int)) - fl (Ux07.now s).lamp = ((2 * (s.rule.c - (Ux07.now s).count) - Ux07.flag (Ux07.now s).lamp : Nat) : Int) := by
          rw [hfl]
          omega
        rw [e]
        rfl
end
end LP
end

section
set_option Elab.async false
set_option linter.all false
set_option maxRecDepth 100000
set_option Elab.async false
set_option linter.all false
set_option maxRecDepth 100000
namespace LP
open PySem PySem.Spec PyProof.Rows L2 LM
theorem at0 {as : List Int} {j : Nat} {y : Int} (e : as[j]? = some y) : atI (as.map V.int) ((j : Nat) : Int) = some (.int y) := atI_nat (by rw [List.getElem?_map, e]; rfl)
section
variable {P : Program} {w : World} {K : PySem.W.Frag} {mg : Str → Option Value} {base : Heap}
theorem ok_answer (p : Prg K mg) : FnOk P w K mg base CX0 5 p.fAnswer p.dAnswer PAnswer (spAnswer p.C) := by
  refine p.FAnswer.ok scAnswer (fun vs H Q E h => ?_) (fun cdv A outer s H vs Q E hr h => ?_)
  · obtain ⟨c, v, u, g, s, z, as, rfl, _⟩ := h
    rfl
  · obtain ⟨c, v, u, g, s, z, as, rfl, hc, wf, hsh, hin, hg, hlen, kk⟩ := h
    refine ⟨_, pss_cons (ps_if (pt_cmp (pc_eqI (pv 1) (pe_glob (v := .int 0) rfl p.c_CELL ⟨_, rfl⟩))) (pss_one (ps_ret (pe_call (ok_acell p) (hr.mono (by decide)) rfl p.gACell p.kACell (bACell p) .nil pass0 (pa_cons (pv 0) (pa_cons (pe_ix ix_list (pv 2) pe_int (fun _ _ => rfl)) (pa_cons (pe_ix ix_list (pv 2) pe_int (fun _ _ => rfl)) (pa_cons (pe_ix ix_list (pv 2) pe_int (fun _ _ => rfl)) (pa_cons (pe_ix ix_list (pv 2) pe_int (fun _ _ => rfl)) (pa_cons (pe_ix ix_list (pv 2) pe_int (fun _ _ => rfl)) pa_nil))))))))) pss_nil)
      (pss_cons (ps_if (pt_cmp (pc_eqI (pv 1) (pe_glob (v := .int 1) rfl p.c_CALL ⟨_, rfl⟩))) (pss_one (ps_ret (pe_call (ok_acall p) (hr.mono (by decide)) rfl p.gACall p.kACall (bACall p) .nil pass0 (pa_cons (pv 0) (pa_cons (pe_ix ix_list (pv 2) pe_int (fun _ _ => rfl)) pa_nil))))) pss_nil)
      (pss_cons (ps_if (pt_cmp (pc_eqI (pv 1) (pe_glob (v := .int 2) rfl p.c_ROUNDS ⟨_, rfl⟩))) (pss_one (ps_ret (pe_call (ok_arounds p) hr rfl p.gARounds p.kARounds (bARounds p) .nil pass0 (pa_cons (pv 0) (pa_cons (pe_ix ix_list (pv 2) pe_int (fun _ _ => rfl)) pa_nil))))) pss_nil)
      (pss_cons (ps_if (pt_cmp (pc_eqI (pv 1) (pe_glob (v := .int 3) rfl p.c_BACK ⟨_, rfl⟩))) (pss_one (ps_ret (pe_call (ok_aback p) (hr.mono (by decide)) rfl p.gABack p.kABack (bABack p) .nil pass0 (pa_cons (pv 0) pa_nil)))) pss_nil)
      (pss_cons (ps_if (pt_cmp (pc_eqI (pv 1) (pe_glob (v := .int 4) rfl p.c_SHOWS ⟨_, rfl⟩))) (pss_one (ps_ret (pe_call (ok_ashows p) (hr.mono (by decide)) rfl p.gAShows p.kAShows (bAShows p) .nil pass0 (pa_cons (pv 0) pa_nil)))) pss_nil)
      (pss_cons (ps_if (pt_cmp (pc_eqI (pv 1) (pe_glob (v := .int 5) rfl p.c_BEEN ⟨_, rfl⟩))) (pss_one (ps_ret (pe_call (ok_abeen p) (hr.mono (by decide)) rfl p.gABeen p.kABeen (bABeen p) .nil pass0 (pa_cons (pv 0) pa_nil)))) pss_nil)
      (pss_cons (ps_if (pt_cmp (pc_eqI (pv 1) (pe_glob (v := .int 6) rfl p.c_TURNED ⟨_, rfl⟩))) (pss_one (ps_ret (pe_call (ok_aturned p) (hr.mono (by decide)) rfl p.gATurned p.kATurned (bATurned p) .nil pass0 (pa_cons (pv 0) (pa_cons (pe_ix ix_list (pv 2) pe_int (fun _ _ => rfl)) pa_nil))))) pss_nil)
      (pss_cons (ps_if (pt_cmp (pc_eqI (pv 1) (pe_glob (v := .int 7) rfl p.c_RIGHT ⟨_, rfl⟩))) (pss_one (ps_ret (pe_call (ok_aright p) (hr.mono (by decide)) rfl p.gARight p.kARight (bARight p) .nil pass0 (pa_cons (pv 0) pa_nil)))) pss_nil)
      (pss_cons (ps_if (pt_cmp (pc_eqI (pv 1) (pe_glob (v := .int 8) rfl p.c_SURE ⟨_, rfl⟩))) (pss_one (ps_ret (pe_call (ok_asure p) (hr.mono (by decide)) rfl p.gASure p.kASure (bASure p) .nil pass0 (pa_cons (pv 0) pa_nil)))) pss_nil)
      (pss_cons (ps_if (pt_cmp (pc_eqI (pv 1) (pe_glob (v := .int 9) rfl p.c_COMES ⟨_, rfl⟩))) (pss_one (ps_ret (pe_call (ok_acomes p) (hr.mono (by decide)) rfl p.gAComes p.kAComes (bAComes p) .nil pass0 (pa_cons (pv 0) pa_nil)))) pss_nil)
      (pss_cons (ps_if (pt_cmp (pc_eqI (pv 1) (pe_glob (v := .int 10) rfl p.c_NUMBERS ⟨_, rfl⟩))) (pss_one (ps_ret (pe_call (ok_anumbers p) (hr.mono (by decide)) rfl p.gANumbers p.kANumbers (bANumbers p) .nil pass0 (pa_cons (pv 0) pa_nil)))) pss_nil)
      (pss_cons (ps_if (pt_cmp (pc_eqI (pv 1) (pe_glob (v := .int 11) rfl p.c_WRONG ⟨_, rfl⟩))) (pss_one (ps_ret (pe_call (ok_awrong p) (hr.mono (by decide)) rfl p.gAWrong p.kAWrong (bAWrong p) .nil pass0 (pa_cons (pv 0) pa_nil)))) pss_nil)
      (pss_one (ps_ret (pe_call (ok_asoon p) (hr.mono (by decide)) rfl p.gASoon p.kASoon (bASoon p) .nil pass0 (pa_cons (pv 0) pa_nil))))))))))))))), ?_⟩
    obtain ⟨_, _, hz⟩ := shape_cases hsh
    rcases hz with ⟨rfl, e⟩ | ⟨hz, e⟩ | ⟨hz, e⟩
    · match as, e, hin, hg, kk with
      | [a0, a1, a2, a3, a4], _, hin, hg, kk =>
        have i0 := hin a0 (by simp); have i1 := hin a1 (by simp); have i2 := hin a2 (by simp); have i3 := hin a3 (by simp); have i4 := hin a4 (by simp)
        rw [stp0 i0 i1 i2 i3 i4] at kk
        refine ⟨_, rfl, _, _, rfl, rfl, _, rfl, iteT ?_⟩
        exact ⟨_, rfl, _, rfl, g, _, _, _, rfl, rfl, SqL.of hg, at0 (j := 0) rfl, _, rfl, g, _, _, _, rfl, rfl, SqL.of hg, at0 (j := 1) rfl, _, rfl, g, _, _, _, rfl, rfl, SqL.of hg, at0 (j := 2) rfl, _, rfl, g, _, _, _, rfl, rfl, SqL.of hg, at0 (j := 3) rfl, _, rfl, g, _, _, _, rfl, rfl, SqL.of hg, at0 (j := 4) rfl, c, v, u, s, a0, a1, a2, a3, a4, rfl, hc, wf, i0, i1, i2, i3, i4, kk⟩
    · match as, e, hin, hg, kk with
      | [a0], _, hin, hg, kk =>
        have i0 := hin a0 (by simp)
        rcases hz with rfl | rfl | rfl
        · rw [stp1 i0] at kk
          refine ⟨_, rfl, _, _, rfl, rfl, _, rfl, iteF ⟨_, rfl, _, _, rfl, rfl, _, rfl, iteT ?_⟩⟩
          exact ⟨_, rfl, _, rfl, g, _, _, _, rfl, rfl, SqL.of hg, at0 (j := 0) rfl, c, v, u, s, a0, rfl, hc, wf, i0, hlen, kk⟩
        · rw [stp2 i0] at kk
          refine ⟨_, rfl, _, _, rfl, rfl, _, rfl, iteF ⟨_, rfl, _, _, rfl, rfl, _, rfl, iteF ⟨_, rfl, _, _, rfl, rfl, _, rfl, iteT ?_⟩⟩⟩
          exact ⟨_, rfl, _, rfl, g, _, _, _, rfl, rfl, SqL.of hg, at0 (j := 0) rfl, c, v, u, s, a0, rfl, hc, wf, i0, hlen, kk⟩
        · rw [stp6 i0] at kk
          refine ⟨_, rfl, _, _, rfl, rfl, _, rfl, iteF ⟨_, rfl, _, _, rfl, rfl, _, rfl, iteF ⟨_, rfl, _, _, rfl, rfl, _, rfl, iteF ⟨_, rfl, _, _, rfl, rfl, _, rfl, iteF ⟨_, rfl, _, _, rfl, rfl, _, rfl, iteF ⟨_, rfl, _, _, rfl, rfl, _, rfl, iteF ⟨_, rfl, _, _, rfl, rfl, _, rfl, iteT ?_⟩⟩⟩⟩⟩⟩⟩
          exact ⟨_, rfl, _, rfl, g, _, _, _, rfl, rfl, SqL.of hg, at0 (j := 0) rfl, c, v, u, s, a0, rfl, hc, wf, i0, kk⟩
    · match as, e, kk with
      | [], _, kk =>
        rcases hz with rfl | rfl | rfl | rfl | rfl | rfl | rfl | rfl | rfl
        · rw [stp3] at kk
          refine ⟨_, rfl, _, _, rfl, rfl, _, rfl, iteF ⟨_, rfl, _, _, rfl, rfl, _, rfl, iteF ⟨_, rfl, _, _, rfl, rfl, _, rfl, iteF ⟨_, rfl, _, _, rfl, rfl, _, rfl, iteT ?_⟩⟩⟩⟩
          exact ⟨_, rfl, c, v, u, s, rfl, hc, wf, hlen, kk⟩
        · rw [stp4] at kk
          refine ⟨_, rfl, _, _, rfl, rfl, _, rfl, iteF ⟨_, rfl, _, _, rfl, rfl, _, rfl, iteF ⟨_, rfl, _, _, rfl, rfl, _, rfl, iteF ⟨_, rfl, _, _, rfl, rfl, _, rfl, iteF ⟨_, rfl, _, _, rfl, rfl, _, rfl, iteT ?_⟩⟩⟩⟩⟩
          exact ⟨_, rfl, c, v, u, s, rfl, hc, wf, hlen, kk⟩
        · rw [stp5] at kk
          refine ⟨_, rfl, _, _, rfl, rfl, _, rfl, iteF ⟨_, rfl, _, _, rfl, rfl, _, rfl, iteF ⟨_, rfl, _, _, rfl, rfl, _, rfl, iteF ⟨_, rfl, _, _, rfl, rfl, _, rfl, iteF ⟨_, rfl, _, _, rfl, rfl, _, rfl, iteF ⟨_, rfl, _, _, rfl, rfl, _, rfl, iteT ?_⟩⟩⟩⟩⟩⟩
          exact ⟨_, rfl, c, v, u, s, rfl, hc, wf, hlen, kk⟩
        · rw [stp7] at kk
          refine ⟨_, rfl, _, _, rfl, rfl, _, rfl, iteF ⟨_, rfl, _, _, rfl, rfl, _, rfl, iteF ⟨_, rfl, _, _, rfl, rfl, _, rfl, iteF ⟨_, rfl, _, _, rfl, rfl, _, rfl, iteF ⟨_, rfl, _, _, rfl, rfl, _, rfl, iteF ⟨_, rfl, _, _, rfl, rfl, _, rfl, iteF ⟨_, rfl, _, _, rfl, rfl, _, rfl, iteF ⟨_, rfl, _, _, rfl, rfl, _, rfl, iteT ?_⟩⟩⟩⟩⟩⟩⟩⟩
          exact ⟨_, rfl, c, v, u, s, rfl, hc, wf, hlen, kk⟩
        · rw [stp8] at kk
          refine ⟨_, rfl, _, _, rfl, rfl, _, rfl, iteF ⟨_, rfl, _, _, rfl, rfl, _, rfl, iteF ⟨_, rfl, _, _, rfl, rfl, _, rfl, iteF ⟨_, rfl, _, _, rfl, rfl, _, rfl, iteF ⟨_, rfl, _, _, rfl, rfl, _, rfl, iteF ⟨_, rfl, _, _, rfl, rfl, _, rfl, iteF ⟨_, rfl, _, _, rfl, rfl, _, rfl, iteF ⟨_, rfl, _, _, rfl, rfl, _, rfl, iteF ⟨_, rfl, _, _, rfl, rfl, _, rfl, iteT ?_⟩⟩⟩⟩⟩⟩⟩⟩⟩
          exact ⟨_, rfl, c, v, u, s, rfl, hc, wf, hlen, kk⟩
        · rw [stp9] at kk
          refine ⟨_, rfl, _, _, rfl, rfl, _, rfl, iteF ⟨_, rfl, _, _, rfl, rfl, _, rfl, iteF ⟨_, rfl, _, _, rfl, rfl, _, rfl, iteF ⟨_, rfl, _, _, rfl, rfl, _, rfl, iteF ⟨_, rfl, _, _, rfl, rfl, _, rfl, iteF ⟨_, rfl, _, _, rfl, rfl, _, rfl, iteF ⟨_, rfl, _, _, rfl, rfl, _, rfl, iteF ⟨_, rfl, _, _, rfl, rfl, _, rfl, iteF ⟨_, rfl, _, _, rfl, rfl, _, rfl, iteF ⟨_, rfl, _, _, rfl, rfl, _, rfl, iteT ?_⟩⟩⟩⟩⟩⟩⟩⟩⟩⟩
          exact ⟨_, rfl, c, v, u, s, rfl, hc, wf, hlen, kk⟩
        · rw [stp10] at kk
          refine ⟨_, rfl, _, _, rfl, rfl, _, rfl, iteF ⟨_, rfl, _, _, rfl, rfl, _, rfl, iteF ⟨_, rfl, _, _, rfl, rfl, _, rfl, iteF ⟨_, rfl, _, _, rfl, rfl, _, rfl, iteF ⟨_, rfl, _, _, rfl, rfl, _, rfl, iteF ⟨_, rfl, _, _, rfl, rfl, _, rfl, iteF ⟨_, rfl, _, _, rfl, rfl, _, rfl, iteF ⟨_, rfl, _, _, rfl, rfl, _, rfl, iteF ⟨_, rfl, _, _, rfl, rfl, _, rfl, iteF ⟨_, rfl, _, _, rfl, rfl, _, rfl, iteF ⟨_, rfl, _, _, rfl, rfl, _, rfl, iteT ?_⟩⟩⟩⟩⟩⟩⟩⟩⟩⟩⟩
          exact ⟨_, rfl, c, v, u, s, rfl, hc, wf, hlen, kk⟩
        · rw [stp11] at kk
          refine ⟨_, rfl, _, _, rfl, rfl, _, rfl, iteF ⟨_, rfl, _, _, rfl, rfl, _, rfl, iteF ⟨_, rfl, _, _, rfl, rfl, _, rfl, iteF ⟨_, rfl, _, _, rfl, rfl, _, rfl, iteF ⟨_, rfl, _, _, rfl, rfl, _, rfl, iteF ⟨_, rfl, _, _, rfl, rfl, _, rfl, iteF ⟨_, rfl, _, _, rfl, rfl, _, rfl, iteF ⟨_, rfl, _, _, rfl, rfl, _, rfl, iteF ⟨_, rfl, _, _, rfl, rfl, _, rfl, iteF ⟨_, rfl, _, _, rfl, rfl, _, rfl, iteF ⟨_, rfl, _, _, rfl, rfl, _, rfl, iteF ⟨_, rfl, _, _, rfl, rfl, _, rfl, iteT ?_⟩⟩⟩⟩⟩⟩⟩⟩⟩⟩⟩⟩
          exact ⟨_, rfl, c, v, u, s, rfl, hc, wf, hlen, kk⟩
        · rw [stp12] at kk
          refine ⟨_, rfl, _, _, rfl, rfl, _, rfl, iteF ⟨_, rfl, _, _, rfl, rfl, _, rfl, iteF ⟨_, rfl, _, _, rfl, rfl, _, rfl, iteF ⟨_, rfl, _, _, rfl, rfl, _, rfl, iteF ⟨_, rfl, _, _, rfl, rfl, _, rfl, iteF ⟨_, rfl, _, _, rfl, rfl, _, rfl, iteF ⟨_, rfl, _, _, rfl, rfl, _, rfl, iteF ⟨_, rfl, _, _, rfl, rfl, _, rfl, iteF ⟨_, rfl, _, _, rfl, rfl, _, rfl, iteF ⟨_, rfl, _, _, rfl, rfl, _, rfl, iteF ⟨_, rfl, _, _, rfl, rfl, _, rfl, iteF ⟨_, rfl, _, _, rfl, rfl, _, rfl, iteF ?_⟩⟩⟩⟩⟩⟩⟩⟩⟩⟩⟩⟩
          exact ⟨_, rfl, c, v, u, s, rfl, hc, wf, hlen, kk⟩
end
end LP
end

section
set_option Elab.async false
set_option linter.all false
set_option maxRecDepth 100000
set_option Elab.async false
set_option linter.all false
set_option maxRecDepth 100000
namespace LP
open PySem PySem.Spec PyProof.Rows L2 LM
def prg_mk {K : PySem.W.Frag} {h : Heap} {mg : Str → Option Value} (X : K.In h) (G : h.Ns mainGlobals mg) {C fInit fBegin fHas fCounted fSaid fWould fVisit fUndo fRound fBeen fAllBeen fIsSure fIsComing fTillWrong fLeft fCanSaid fTillSaid fLeast fGreat fFewest fAsNum fWithin fFits fACell fACall fARounds fABack fAShows fABeen fATurned fARight fASure fAComes fANumbers fAWrong fASoon fAnswer fAnswers  wWIDTHS : Addr}
    {odInit anInit odBegin anBegin odHas anHas odCounted anCounted odSaid anSaid odWould anWould odVisit anVisit odUndo anUndo odRound anRound odBeen anBeen odAllBeen anAllBeen odIsSure anIsSure odIsComing anIsComing odTillWrong anTillWrong odLeft anLeft odCanSaid anCanSaid odTillSaid anTillSaid odLeast anLeast odGreat anGreat odFewest anFewest odAsNum anAsNum odWithin anWithin odFits anFits odACell anACell odACall anACall odARounds anARounds odABack anABack odAShows anAShows odABeen anABeen odATurned anATurned odARight anARight odASure anASure odAComes anAComes odANumbers anANumbers odAWrong anAWrong odASoon anASoon odAnswer anAnswer odAnswers anAnswers odWIDTHS : Option Addr} {slInit slBegin slHas slCounted slSaid slWould slVisit slUndo slRound slBeen slAllBeen slIsSure slIsComing slTillWrong slLeft slCanSaid slTillSaid slLeast slGreat slFewest slAsNum slWithin slFits slACell slACall slARounds slABack slAShows slABeen slATurned slARight slASure slAComes slANumbers slAWrong slASoon slAnswer slAnswers slWIDTHS : Array (Option Value)}
    {ocInit kVInit dcInit pmInit cdInit ctInit ocBegin kVBegin dcBegin pmBegin cdBegin ctBegin ocHas kVHas dcHas pmHas cdHas ctHas ocCounted kVCounted dcCounted pmCounted cdCounted ctCounted ocSaid kVSaid dcSaid pmSaid cdSaid ctSaid ocWould kVWould dcWould pmWould cdWould ctWould ocVisit kVVisit dcVisit pmVisit cdVisit ctVisit ocUndo kVUndo dcUndo pmUndo cdUndo ctUndo ocRound kVRound dcRound pmRound cdRound ctRound ocBeen kVBeen dcBeen pmBeen cdBeen ctBeen ocAllBeen kVAllBeen dcAllBeen pmAllBeen cdAllBeen ctAllBeen ocIsSure kVIsSure dcIsSure pmIsSure cdIsSure ctIsSure ocIsComing kVIsComing dcIsComing pmIsComing cdIsComing ctIsComing ocTillWrong kVTillWrong dcTillWrong pmTillWrong cdTillWrong ctTillWrong ocLeft kVLeft dcLeft pmLeft cdLeft ctLeft ocCanSaid kVCanSaid dcCanSaid pmCanSaid cdCanSaid ctCanSaid ocTillSaid kVTillSaid dcTillSaid pmTillSaid cdTillSaid ctTillSaid ocLeast kVLeast dcLeast pmLeast cdLeast ctLeast ocGreat kVGreat dcGreat pmGreat cdGreat ctGreat ocFewest kVFewest dcFewest pmFewest cdFewest ctFewest ocAsNum kVAsNum dcAsNum pmAsNum cdAsNum ctAsNum ocWithin kVWithin dcWithin pmWithin cdWithin ctWithin ocFits kVFits dcFits pmFits cdFits ctFits ocACell kVACell dcACell pmACell cdACell ctACell ocACall kVACall dcACall pmACall cdACall ctACall ocARounds kVARounds dcARounds pmARounds cdARounds ctARounds ocABack kVABack dcABack pmABack cdABack ctABack ocAShows kVAShows dcAShows pmAShows cdAShows ctAShows ocABeen kVABeen dcABeen pmABeen cdABeen ctABeen ocATurned kVATurned dcATurned pmATurned cdATurned ctATurned ocARight kVARight dcARight pmARight cdARight ctARight ocASure kVASure dcASure pmASure cdASure ctASure ocAComes kVAComes dcAComes pmAComes cdAComes ctAComes ocANumbers kVANumbers dcANumbers pmANumbers cdANumbers ctANumbers ocAWrong kVAWrong dcAWrong pmAWrong cdAWrong ctAWrong ocASoon kVASoon dcASoon pmASoon cdASoon ctASoon ocAnswer kVAnswer dcAnswer pmAnswer cdAnswer ctAnswer ocAnswers kVAnswers dcAnswers pmAnswers cdAnswers ctAnswers : Value} {tCOUNTER tCELL tCALL tROUNDS tBACK tSHOWS tBEEN tTURNED tRIGHT tSURE tCOMES tNUMBERS tWRONG tOUT_OF_BOUNDS tNO_SUCH_PERSON tNOT_SAID tNOBODY_CALLED tALREADY_SAID tMOST_PEOPLE tMOST_TIMES tMOST_GOAL tMOST_ROUNDS tWIDTHS0 tWIDTHS1 tWIDTHS2 tWIDTHS3 tWIDTHS4 tWIDTHS5 tWIDTHS6 tWIDTHS7 tWIDTHS8 tWIDTHS9 tWIDTHS10 tWIDTHS11 tWIDTHS12 : Tok} {nWIDTHS : Nat}
    (aC : PySem.W.nsIn K mainGlobals "Cell" = some (some (.ref C)))
    (aInit : PySem.W.findIn K (.ref C) "__init__" = some (some (.ref fInit)))
    (iInit : PySem.W.isFn K (.ref fInit) = true)
    (lInit : K.lookup fInit = some ⟨ocInit, odInit, .func (PySem.W.fnOf "__init__" "Cell.__init__" (defArgs sInit) (defBody sInit) (defScope sInit) .none kVInit dcInit pmInit anInit cdInit ctInit), slInit⟩)
    (cInit : PySem.W.codeIn K cdInit "Cell.__init__" = true)
    (kInit : PySem.W.keepIn K (.ref fInit) = true)
    (aBegin : PySem.W.findIn K (.ref C) "begin" = some (some (.ref fBegin)))
    (iBegin : PySem.W.isFn K (.ref fBegin) = true)
    (lBegin : K.lookup fBegin = some ⟨ocBegin, odBegin, .func (PySem.W.fnOf "begin" "Cell.begin" (defArgs sBegin) (defBody sBegin) (defScope sBegin) .none kVBegin dcBegin pmBegin anBegin cdBegin ctBegin), slBegin⟩)
    (cBegin : PySem.W.codeIn K cdBegin "Cell.begin" = true)
    (kBegin : PySem.W.keepIn K (.ref fBegin) = true)
    (aHas : PySem.W.findIn K (.ref C) "has_person" = some (some (.ref fHas)))
    (iHas : PySem.W.isFn K (.ref fHas) = true)
    (lHas : K.lookup fHas = some ⟨ocHas, odHas, .func (PySem.W.fnOf "has_person" "Cell.has_person" (defArgs sHas) (defBody sHas) (defScope sHas) .none kVHas dcHas pmHas anHas cdHas ctHas), slHas⟩)
    (cHas : PySem.W.codeIn K cdHas "Cell.has_person" = true)
    (kHas : PySem.W.keepIn K (.ref fHas) = true)
    (aCounted : PySem.W.findIn K (.ref C) "counted" = some (some (.ref fCounted)))
    (iCounted : PySem.W.isFn K (.ref fCounted) = true)
    (lCounted : K.lookup fCounted = some ⟨ocCounted, odCounted, .func (PySem.W.fnOf "counted" "Cell.counted" (defArgs sCounted) (defBody sCounted) (defScope sCounted) .none kVCounted dcCounted pmCounted anCounted cdCounted ctCounted), slCounted⟩)
    (cCounted : PySem.W.codeIn K cdCounted "Cell.counted" = true)
    (kCounted : PySem.W.keepIn K (.ref fCounted) = true)
    (aSaid : PySem.W.findIn K (.ref C) "said" = some (some (.ref fSaid)))
    (iSaid : PySem.W.isFn K (.ref fSaid) = true)
    (lSaid : K.lookup fSaid = some ⟨ocSaid, odSaid, .func (PySem.W.fnOf "said" "Cell.said" (defArgs sSaid) (defBody sSaid) (defScope sSaid) .none kVSaid dcSaid pmSaid anSaid cdSaid ctSaid), slSaid⟩)
    (cSaid : PySem.W.codeIn K cdSaid "Cell.said" = true)
    (kSaid : PySem.W.keepIn K (.ref fSaid) = true)
    (aWould : PySem.W.findIn K (.ref C) "would_turn" = some (some (.ref fWould)))
    (iWould : PySem.W.isFn K (.ref fWould) = true)
    (lWould : K.lookup fWould = some ⟨ocWould, odWould, .func (PySem.W.fnOf "would_turn" "Cell.would_turn" (defArgs sWould) (defBody sWould) (defScope sWould) .none kVWould dcWould pmWould anWould cdWould ctWould), slWould⟩)
    (cWould : PySem.W.codeIn K cdWould "Cell.would_turn" = true)
    (kWould : PySem.W.keepIn K (.ref fWould) = true)
    (aVisit : PySem.W.findIn K (.ref C) "visit" = some (some (.ref fVisit)))
    (iVisit : PySem.W.isFn K (.ref fVisit) = true)
    (lVisit : K.lookup fVisit = some ⟨ocVisit, odVisit, .func (PySem.W.fnOf "visit" "Cell.visit" (defArgs sVisit) (defBody sVisit) (defScope sVisit) .none kVVisit dcVisit pmVisit anVisit cdVisit ctVisit), slVisit⟩)
    (cVisit : PySem.W.codeIn K cdVisit "Cell.visit" = true)
    (kVisit : PySem.W.keepIn K (.ref fVisit) = true)
    (aUndo : PySem.W.findIn K (.ref C) "undo" = some (some (.ref fUndo)))
    (iUndo : PySem.W.isFn K (.ref fUndo) = true)
    (lUndo : K.lookup fUndo = some ⟨ocUndo, odUndo, .func (PySem.W.fnOf "undo" "Cell.undo" (defArgs sUndo) (defBody sUndo) (defScope sUndo) .none kVUndo dcUndo pmUndo anUndo cdUndo ctUndo), slUndo⟩)
    (cUndo : PySem.W.codeIn K cdUndo "Cell.undo" = true)
    (kUndo : PySem.W.keepIn K (.ref fUndo) = true)
    (aRound : PySem.W.findIn K (.ref C) "go_round" = some (some (.ref fRound)))
    (iRound : PySem.W.isFn K (.ref fRound) = true)
    (lRound : K.lookup fRound = some ⟨ocRound, odRound, .func (PySem.W.fnOf "go_round" "Cell.go_round" (defArgs sRound) (defBody sRound) (defScope sRound) .none kVRound dcRound pmRound anRound cdRound ctRound), slRound⟩)
    (cRound : PySem.W.codeIn K cdRound "Cell.go_round" = true)
    (kRound : PySem.W.keepIn K (.ref fRound) = true)
    (aBeen : PySem.W.findIn K (.ref C) "been" = some (some (.ref fBeen)))
    (iBeen : PySem.W.isFn K (.ref fBeen) = true)
    (lBeen : K.lookup fBeen = some ⟨ocBeen, odBeen, .func (PySem.W.fnOf "been" "Cell.been" (defArgs sBeen) (defBody sBeen) (defScope sBeen) .none kVBeen dcBeen pmBeen anBeen cdBeen ctBeen), slBeen⟩)
    (cBeen : PySem.W.codeIn K cdBeen "Cell.been" = true)
    (kBeen : PySem.W.keepIn K (.ref fBeen) = true)
    (aAllBeen : PySem.W.findIn K (.ref C) "all_been" = some (some (.ref fAllBeen)))
    (iAllBeen : PySem.W.isFn K (.ref fAllBeen) = true)
    (lAllBeen : K.lookup fAllBeen = some ⟨ocAllBeen, odAllBeen, .func (PySem.W.fnOf "all_been" "Cell.all_been" (defArgs sAllBeen) (defBody sAllBeen) (defScope sAllBeen) .none kVAllBeen dcAllBeen pmAllBeen anAllBeen cdAllBeen ctAllBeen), slAllBeen⟩)
    (cAllBeen : PySem.W.codeIn K cdAllBeen "Cell.all_been" = true)
    (kAllBeen : PySem.W.keepIn K (.ref fAllBeen) = true)
    (aIsSure : PySem.W.findIn K (.ref C) "is_sure" = some (some (.ref fIsSure)))
    (iIsSure : PySem.W.isFn K (.ref fIsSure) = true)
    (lIsSure : K.lookup fIsSure = some ⟨ocIsSure, odIsSure, .func (PySem.W.fnOf "is_sure" "Cell.is_sure" (defArgs sIsSure) (defBody sIsSure) (defScope sIsSure) .none kVIsSure dcIsSure pmIsSure anIsSure cdIsSure ctIsSure), slIsSure⟩)
    (cIsSure : PySem.W.codeIn K cdIsSure "Cell.is_sure" = true)
    (kIsSure : PySem.W.keepIn K (.ref fIsSure) = true)
    (aIsComing : PySem.W.findIn K (.ref C) "is_coming" = some (some (.ref fIsComing)))
    (iIsComing : PySem.W.isFn K (.ref fIsComing) = true)
    (lIsComing : K.lookup fIsComing = some ⟨ocIsComing, odIsComing, .func (PySem.W.fnOf "is_coming" "Cell.is_coming" (defArgs sIsComing) (defBody sIsComing) (defScope sIsComing) .none kVIsComing dcIsComing pmIsComing anIsComing cdIsComing ctIsComing), slIsComing⟩)
    (cIsComing : PySem.W.codeIn K cdIsComing "Cell.is_coming" = true)
    (kIsComing : PySem.W.keepIn K (.ref fIsComing) = true)
    (aTillWrong : PySem.W.findIn K (.ref C) "fewest_till_wrong" = some (some (.ref fTillWrong)))
    (iTillWrong : PySem.W.isFn K (.ref fTillWrong) = true)
    (lTillWrong : K.lookup fTillWrong = some ⟨ocTillWrong, odTillWrong, .func (PySem.W.fnOf "fewest_till_wrong" "Cell.fewest_till_wrong" (defArgs sTillWrong) (defBody sTillWrong) (defScope sTillWrong) .none kVTillWrong dcTillWrong pmTillWrong anTillWrong cdTillWrong ctTillWrong), slTillWrong⟩)
    (cTillWrong : PySem.W.codeIn K cdTillWrong "Cell.fewest_till_wrong" = true)
    (kTillWrong : PySem.W.keepIn K (.ref fTillWrong) = true)
    (aLeft : PySem.W.findIn K (.ref C) "turns_left" = some (some (.ref fLeft)))
    (iLeft : PySem.W.isFn K (.ref fLeft) = true)
    (lLeft : K.lookup fLeft = some ⟨ocLeft, odLeft, .func (PySem.W.fnOf "turns_left" "Cell.turns_left" (defArgs sLeft) (defBody sLeft) (defScope sLeft) .none kVLeft dcLeft pmLeft anLeft cdLeft ctLeft), slLeft⟩)
    (cLeft : PySem.W.codeIn K cdLeft "Cell.turns_left" = true)
    (kLeft : PySem.W.keepIn K (.ref fLeft) = true)
    (aCanSaid : PySem.W.findIn K (.ref C) "can_be_said" = some (some (.ref fCanSaid)))
    (iCanSaid : PySem.W.isFn K (.ref fCanSaid) = true)
    (lCanSaid : K.lookup fCanSaid = some ⟨ocCanSaid, odCanSaid, .func (PySem.W.fnOf "can_be_said" "Cell.can_be_said" (defArgs sCanSaid) (defBody sCanSaid) (defScope sCanSaid) .none kVCanSaid dcCanSaid pmCanSaid anCanSaid cdCanSaid ctCanSaid), slCanSaid⟩)
    (cCanSaid : PySem.W.codeIn K cdCanSaid "Cell.can_be_said" = true)
    (kCanSaid : PySem.W.keepIn K (.ref fCanSaid) = true)
    (aTillSaid : PySem.W.findIn K (.ref C) "fewest_till_said" = some (some (.ref fTillSaid)))
    (iTillSaid : PySem.W.isFn K (.ref fTillSaid) = true)
    (lTillSaid : K.lookup fTillSaid = some ⟨ocTillSaid, odTillSaid, .func (PySem.W.fnOf "fewest_till_said" "Cell.fewest_till_said" (defArgs sTillSaid) (defBody sTillSaid) (defScope sTillSaid) .none kVTillSaid dcTillSaid pmTillSaid anTillSaid cdTillSaid ctTillSaid), slTillSaid⟩)
    (cTillSaid : PySem.W.codeIn K cdTillSaid "Cell.fewest_till_said" = true)
    (kTillSaid : PySem.W.keepIn K (.ref fTillSaid) = true)
    (aLeast : PySem.W.nsIn K mainGlobals "least_sure" = some (some (.ref fLeast)))
    (lLeast : K.lookup fLeast = some ⟨ocLeast, odLeast, .func (PySem.W.fnOf "least_sure" "least_sure" (defArgs sLeast) (defBody sLeast) (defScope sLeast) .none kVLeast dcLeast pmLeast anLeast cdLeast ctLeast), slLeast⟩)
    (cLeast : PySem.W.codeIn K cdLeast "least_sure" = true)
    (kLeast : PySem.W.keepIn K (.ref fLeast) = true)
    (aGreat : PySem.W.nsIn K mainGlobals "greatest_coming" = some (some (.ref fGreat)))
    (lGreat : K.lookup fGreat = some ⟨ocGreat, odGreat, .func (PySem.W.fnOf "greatest_coming" "greatest_coming" (defArgs sGreat) (defBody sGreat) (defScope sGreat) .none kVGreat dcGreat pmGreat anGreat cdGreat ctGreat), slGreat⟩)
    (cGreat : PySem.W.codeIn K cdGreat "greatest_coming" = true)
    (kGreat : PySem.W.keepIn K (.ref fGreat) = true)
    (aFewest : PySem.W.nsIn K mainGlobals "fewest_visits" = some (some (.ref fFewest)))
    (lFewest : K.lookup fFewest = some ⟨ocFewest, odFewest, .func (PySem.W.fnOf "fewest_visits" "fewest_visits" (defArgs sFewest) (defBody sFewest) (defScope sFewest) .none kVFewest dcFewest pmFewest anFewest cdFewest ctFewest), slFewest⟩)
    (cFewest : PySem.W.codeIn K cdFewest "fewest_visits" = true)
    (kFewest : PySem.W.keepIn K (.ref fFewest) = true)
    (aAsNum : PySem.W.nsIn K mainGlobals "as_number" = some (some (.ref fAsNum)))
    (lAsNum : K.lookup fAsNum = some ⟨ocAsNum, odAsNum, .func (PySem.W.fnOf "as_number" "as_number" (defArgs sAsNum) (defBody sAsNum) (defScope sAsNum) .none kVAsNum dcAsNum pmAsNum anAsNum cdAsNum ctAsNum), slAsNum⟩)
    (cAsNum : PySem.W.codeIn K cdAsNum "as_number" = true)
    (kAsNum : PySem.W.keepIn K (.ref fAsNum) = true)
    (aWithin : PySem.W.nsIn K mainGlobals "within" = some (some (.ref fWithin)))
    (lWithin : K.lookup fWithin = some ⟨ocWithin, odWithin, .func (PySem.W.fnOf "within" "within" (defArgs sWithin) (defBody sWithin) (defScope sWithin) .none kVWithin dcWithin pmWithin anWithin cdWithin ctWithin), slWithin⟩)
    (cWithin : PySem.W.codeIn K cdWithin "within" = true)
    (kWithin : PySem.W.keepIn K (.ref fWithin) = true)
    (aFits : PySem.W.nsIn K mainGlobals "cell_fits" = some (some (.ref fFits)))
    (lFits : K.lookup fFits = some ⟨ocFits, odFits, .func (PySem.W.fnOf "cell_fits" "cell_fits" (defArgs sFits) (defBody sFits) (defScope sFits) .none kVFits dcFits pmFits anFits cdFits ctFits), slFits⟩)
    (cFits : PySem.W.codeIn K cdFits "cell_fits" = true)
    (kFits : PySem.W.keepIn K (.ref fFits) = true)
    (aACell : PySem.W.nsIn K mainGlobals "answer_cell" = some (some (.ref fACell)))
    (lACell : K.lookup fACell = some ⟨ocACell, odACell, .func (PySem.W.fnOf "answer_cell" "answer_cell" (defArgs sACell) (defBody sACell) (defScope sACell) .none kVACell dcACell pmACell anACell cdACell ctACell), slACell⟩)
    (cACell : PySem.W.codeIn K cdACell "answer_cell" = true)
    (kACell : PySem.W.keepIn K (.ref fACell) = true)
    (aACall : PySem.W.nsIn K mainGlobals "answer_call" = some (some (.ref fACall)))
    (lACall : K.lookup fACall = some ⟨ocACall, odACall, .func (PySem.W.fnOf "answer_call" "answer_call" (defArgs sACall) (defBody sACall) (defScope sACall) .none kVACall dcACall pmACall anACall cdACall ctACall), slACall⟩)
    (cACall : PySem.W.codeIn K cdACall "answer_call" = true)
    (kACall : PySem.W.keepIn K (.ref fACall) = true)
    (aARounds : PySem.W.nsIn K mainGlobals "answer_rounds" = some (some (.ref fARounds)))
    (lARounds : K.lookup fARounds = some ⟨ocARounds, odARounds, .func (PySem.W.fnOf "answer_rounds" "answer_rounds" (defArgs sARounds) (defBody sARounds) (defScope sARounds) .none kVARounds dcARounds pmARounds anARounds cdARounds ctARounds), slARounds⟩)
    (cARounds : PySem.W.codeIn K cdARounds "answer_rounds" = true)
    (kARounds : PySem.W.keepIn K (.ref fARounds) = true)
    (aABack : PySem.W.nsIn K mainGlobals "answer_back" = some (some (.ref fABack)))
    (lABack : K.lookup fABack = some ⟨ocABack, odABack, .func (PySem.W.fnOf "answer_back" "answer_back" (defArgs sABack) (defBody sABack) (defScope sABack) .none kVABack dcABack pmABack anABack cdABack ctABack), slABack⟩)
    (cABack : PySem.W.codeIn K cdABack "answer_back" = true)
    (kABack : PySem.W.keepIn K (.ref fABack) = true)
    (aAShows : PySem.W.nsIn K mainGlobals "answer_shows" = some (some (.ref fAShows)))
    (lAShows : K.lookup fAShows = some ⟨ocAShows, odAShows, .func (PySem.W.fnOf "answer_shows" "answer_shows" (defArgs sAShows) (defBody sAShows) (defScope sAShows) .none kVAShows dcAShows pmAShows anAShows cdAShows ctAShows), slAShows⟩)
    (cAShows : PySem.W.codeIn K cdAShows "answer_shows" = true)
    (kAShows : PySem.W.keepIn K (.ref fAShows) = true)
    (aABeen : PySem.W.nsIn K mainGlobals "answer_been" = some (some (.ref fABeen)))
    (lABeen : K.lookup fABeen = some ⟨ocABeen, odABeen, .func (PySem.W.fnOf "answer_been" "answer_been" (defArgs sABeen) (defBody sABeen) (defScope sABeen) .none kVABeen dcABeen pmABeen anABeen cdABeen ctABeen), slABeen⟩)
    (cABeen : PySem.W.codeIn K cdABeen "answer_been" = true)
    (kABeen : PySem.W.keepIn K (.ref fABeen) = true)
    (aATurned : PySem.W.nsIn K mainGlobals "answer_turned" = some (some (.ref fATurned)))
    (lATurned : K.lookup fATurned = some ⟨ocATurned, odATurned, .func (PySem.W.fnOf "answer_turned" "answer_turned" (defArgs sATurned) (defBody sATurned) (defScope sATurned) .none kVATurned dcATurned pmATurned anATurned cdATurned ctATurned), slATurned⟩)
    (cATurned : PySem.W.codeIn K cdATurned "answer_turned" = true)
    (kATurned : PySem.W.keepIn K (.ref fATurned) = true)
    (aARight : PySem.W.nsIn K mainGlobals "answer_right" = some (some (.ref fARight)))
    (lARight : K.lookup fARight = some ⟨ocARight, odARight, .func (PySem.W.fnOf "answer_right" "answer_right" (defArgs sARight) (defBody sARight) (defScope sARight) .none kVARight dcARight pmARight anARight cdARight ctARight), slARight⟩)
    (cARight : PySem.W.codeIn K cdARight "answer_right" = true)
    (kARight : PySem.W.keepIn K (.ref fARight) = true)
    (aASure : PySem.W.nsIn K mainGlobals "answer_sure" = some (some (.ref fASure)))
    (lASure : K.lookup fASure = some ⟨ocASure, odASure, .func (PySem.W.fnOf "answer_sure" "answer_sure" (defArgs sASure) (defBody sASure) (defScope sASure) .none kVASure dcASure pmASure anASure cdASure ctASure), slASure⟩)
    (cASure : PySem.W.codeIn K cdASure "answer_sure" = true)
    (kASure : PySem.W.keepIn K (.ref fASure) = true)
    (aAComes : PySem.W.nsIn K mainGlobals "answer_comes" = some (some (.ref fAComes)))
    (lAComes : K.lookup fAComes = some ⟨ocAComes, odAComes, .func (PySem.W.fnOf "answer_comes" "answer_comes" (defArgs sAComes) (defBody sAComes) (defScope sAComes) .none kVAComes dcAComes pmAComes anAComes cdAComes ctAComes), slAComes⟩)
    (cAComes : PySem.W.codeIn K cdAComes "answer_comes" = true)
    (kAComes : PySem.W.keepIn K (.ref fAComes) = true)
    (aANumbers : PySem.W.nsIn K mainGlobals "answer_numbers" = some (some (.ref fANumbers)))
    (lANumbers : K.lookup fANumbers = some ⟨ocANumbers, odANumbers, .func (PySem.W.fnOf "answer_numbers" "answer_numbers" (defArgs sANumbers) (defBody sANumbers) (defScope sANumbers) .none kVANumbers dcANumbers pmANumbers anANumbers cdANumbers ctANumbers), slANumbers⟩)
    (cANumbers : PySem.W.codeIn K cdANumbers "answer_numbers" = true)
    (kANumbers : PySem.W.keepIn K (.ref fANumbers) = true)
    (aAWrong : PySem.W.nsIn K mainGlobals "answer_wrong" = some (some (.ref fAWrong)))
    (lAWrong : K.lookup fAWrong = some ⟨ocAWrong, odAWrong, .func (PySem.W.fnOf "answer_wrong" "answer_wrong" (defArgs sAWrong) (defBody sAWrong) (defScope sAWrong) .none kVAWrong dcAWrong pmAWrong anAWrong cdAWrong ctAWrong), slAWrong⟩)
    (cAWrong : PySem.W.codeIn K cdAWrong "answer_wrong" = true)
    (kAWrong : PySem.W.keepIn K (.ref fAWrong) = true)
    (aASoon : PySem.W.nsIn K mainGlobals "answer_soon" = some (some (.ref fASoon)))
    (lASoon : K.lookup fASoon = some ⟨ocASoon, odASoon, .func (PySem.W.fnOf "answer_soon" "answer_soon" (defArgs sASoon) (defBody sASoon) (defScope sASoon) .none kVASoon dcASoon pmASoon anASoon cdASoon ctASoon), slASoon⟩)
    (cASoon : PySem.W.codeIn K cdASoon "answer_soon" = true)
    (kASoon : PySem.W.keepIn K (.ref fASoon) = true)
    (aAnswer : PySem.W.nsIn K mainGlobals "answer" = some (some (.ref fAnswer)))
    (lAnswer : K.lookup fAnswer = some ⟨ocAnswer, odAnswer, .func (PySem.W.fnOf "answer" "answer" (defArgs sAnswer) (defBody sAnswer) (defScope sAnswer) .none kVAnswer dcAnswer pmAnswer anAnswer cdAnswer ctAnswer), slAnswer⟩)
    (cAnswer : PySem.W.codeIn K cdAnswer "answer" = true)
    (kAnswer : PySem.W.keepIn K (.ref fAnswer) = true)
    (aAnswers : PySem.W.nsIn K mainGlobals "answers" = some (some (.ref fAnswers)))
    (lAnswers : K.lookup fAnswers = some ⟨ocAnswers, odAnswers, .func (PySem.W.fnOf "answers" "answers" (defArgs sAnswers) (defBody sAnswers) (defScope sAnswers) .none kVAnswers dcAnswers pmAnswers anAnswers cdAnswers ctAnswers), slAnswers⟩)
    (cAnswers : PySem.W.codeIn K cdAnswers "answers" = true)
    (kAnswers : PySem.W.keepIn K (.ref fAnswers) = true)
    (pg : PySem.W.plainGet K C Str.empty = true)
    (hd : PySem.W.hasDictIn K C = true)
    (po : PySem.W.plainOver K C = true)
    (sa : PySem.W.findIn K (.ref C) "__setattr__" = some (some (.builtin "object.__setattr__")))
    (mk : PySem.W.makesIn K C = true)
    (kc : PySem.W.keepIn K (.ref C) = true)
    (npeople : PySem.W.findIn K (.ref C) "people" = some none)
    (ntimes : PySem.W.findIn K (.ref C) "times" = some none)
    (ngoal : PySem.W.findIn K (.ref C) "goal" = some none)
    (nknown : PySem.W.findIn K (.ref C) "known" = some none)
    (nlamp : PySem.W.findIn K (.ref C) "lamp" = some none)
    (nvisits : PySem.W.findIn K (.ref C) "visits" = some none)
    (nturns : PySem.W.findIn K (.ref C) "turns" = some none)
    (xCOUNTER : PySem.W.nsIn K mainGlobals "COUNTER" = some (some (.int (1) tCOUNTER)))
    (xCELL : PySem.W.nsIn K mainGlobals "CELL" = some (some (.int (0) tCELL)))
    (xCALL : PySem.W.nsIn K mainGlobals "CALL" = some (some (.int (1) tCALL)))
    (xROUNDS : PySem.W.nsIn K mainGlobals "ROUNDS" = some (some (.int (2) tROUNDS)))
    (xBACK : PySem.W.nsIn K mainGlobals "BACK" = some (some (.int (3) tBACK)))
    (xSHOWS : PySem.W.nsIn K mainGlobals "SHOWS" = some (some (.int (4) tSHOWS)))
    (xBEEN : PySem.W.nsIn K mainGlobals "BEEN" = some (some (.int (5) tBEEN)))
    (xTURNED : PySem.W.nsIn K mainGlobals "TURNED" = some (some (.int (6) tTURNED)))
    (xRIGHT : PySem.W.nsIn K mainGlobals "RIGHT" = some (some (.int (7) tRIGHT)))
    (xSURE : PySem.W.nsIn K mainGlobals "SURE" = some (some (.int (8) tSURE)))
    (xCOMES : PySem.W.nsIn K mainGlobals "COMES" = some (some (.int (9) tCOMES)))
    (xNUMBERS : PySem.W.nsIn K mainGlobals "NUMBERS" = some (some (.int (10) tNUMBERS)))
    (xWRONG : PySem.W.nsIn K mainGlobals "WRONG" = some (some (.int (11) tWRONG)))
    (xOUT_OF_BOUNDS : PySem.W.nsIn K mainGlobals "OUT_OF_BOUNDS" = some (some (.int (-1) tOUT_OF_BOUNDS)))
    (xNO_SUCH_PERSON : PySem.W.nsIn K mainGlobals "NO_SUCH_PERSON" = some (some (.int (-2) tNO_SUCH_PERSON)))
    (xNOT_SAID : PySem.W.nsIn K mainGlobals "NOT_SAID" = some (some (.int (-6) tNOT_SAID)))
    (xNOBODY_CALLED : PySem.W.nsIn K mainGlobals "NOBODY_CALLED" = some (some (.int (-7) tNOBODY_CALLED)))
    (xALREADY_SAID : PySem.W.nsIn K mainGlobals "ALREADY_SAID" = some (some (.int (-9) tALREADY_SAID)))
    (xMOST_PEOPLE : PySem.W.nsIn K mainGlobals "MOST_PEOPLE" = some (some (.int (20) tMOST_PEOPLE)))
    (xMOST_TIMES : PySem.W.nsIn K mainGlobals "MOST_TIMES" = some (some (.int (20) tMOST_TIMES)))
    (xMOST_GOAL : PySem.W.nsIn K mainGlobals "MOST_GOAL" = some (some (.int (400) tMOST_GOAL)))
    (xMOST_ROUNDS : PySem.W.nsIn K mainGlobals "MOST_ROUNDS" = some (some (.int (100) tMOST_ROUNDS)))
    (xWIDTHS : PySem.W.nsIn K mainGlobals "WIDTHS" = some (some (.ref wWIDTHS)))
    (yWIDTHS : K.lookup wWIDTHS = some ⟨.type "tuple", odWIDTHS, .seq #[.int (5) tWIDTHS0, .int (1) tWIDTHS1, .int (1) tWIDTHS2, .int (0) tWIDTHS3, .int (0) tWIDTHS4, .int (0) tWIDTHS5, .int (1) tWIDTHS6, .int (0) tWIDTHS7, .int (0) tWIDTHS8, .int (0) tWIDTHS9, .int (0) tWIDTHS10, .int (0) tWIDTHS11, .int (0) tWIDTHS12] nWIDTHS, slWIDTHS⟩)
    (blen : PySem.W.nsIn K mainGlobals "len" = some none)
    (brange : PySem.W.nsIn K mainGlobals "range" = some none)
    (bset : PySem.W.nsIn K mainGlobals "set" = some none)
    (bsorted : PySem.W.nsIn K mainGlobals "sorted" = some none)
    (bsum : PySem.W.nsIn K mainGlobals "sum" = some none) : Prg K mg where
  C := C
  cl := ⟨pg, hd, po, sa⟩
  makes := mk
  kc := kc
  mgC := PySem.W.mg_of X G aC
  a_people := npeople
  a_times := ntimes
  a_goal := ngoal
  a_known := nknown
  a_lamp := nlamp
  a_visits := nvisits
  a_turns := nturns
  t_COUNTER := tCOUNTER
  c_COUNTER := PySem.W.mg_of X G xCOUNTER
  t_CELL := tCELL
  c_CELL := PySem.W.mg_of X G xCELL
  t_CALL := tCALL
  c_CALL := PySem.W.mg_of X G xCALL
  t_ROUNDS := tROUNDS
  c_ROUNDS := PySem.W.mg_of X G xROUNDS
  t_BACK := tBACK
  c_BACK := PySem.W.mg_of X G xBACK
  t_SHOWS := tSHOWS
  c_SHOWS := PySem.W.mg_of X G xSHOWS
  t_BEEN := tBEEN
  c_BEEN := PySem.W.mg_of X G xBEEN
  t_TURNED := tTURNED
  c_TURNED := PySem.W.mg_of X G xTURNED
  t_RIGHT := tRIGHT
  c_RIGHT := PySem.W.mg_of X G xRIGHT
  t_SURE := tSURE
  c_SURE := PySem.W.mg_of X G xSURE
  t_COMES := tCOMES
  c_COMES := PySem.W.mg_of X G xCOMES
  t_NUMBERS := tNUMBERS
  c_NUMBERS := PySem.W.mg_of X G xNUMBERS
  t_WRONG := tWRONG
  c_WRONG := PySem.W.mg_of X G xWRONG
  t_OUT_OF_BOUNDS := tOUT_OF_BOUNDS
  c_OUT_OF_BOUNDS := PySem.W.mg_of X G xOUT_OF_BOUNDS
  t_NO_SUCH_PERSON := tNO_SUCH_PERSON
  c_NO_SUCH_PERSON := PySem.W.mg_of X G xNO_SUCH_PERSON
  t_NOT_SAID := tNOT_SAID
  c_NOT_SAID := PySem.W.mg_of X G xNOT_SAID
  t_NOBODY_CALLED := tNOBODY_CALLED
  c_NOBODY_CALLED := PySem.W.mg_of X G xNOBODY_CALLED
  t_ALREADY_SAID := tALREADY_SAID
  c_ALREADY_SAID := PySem.W.mg_of X G xALREADY_SAID
  t_MOST_PEOPLE := tMOST_PEOPLE
  c_MOST_PEOPLE := PySem.W.mg_of X G xMOST_PEOPLE
  t_MOST_TIMES := tMOST_TIMES
  c_MOST_TIMES := PySem.W.mg_of X G xMOST_TIMES
  t_MOST_GOAL := tMOST_GOAL
  c_MOST_GOAL := PySem.W.mg_of X G xMOST_GOAL
  t_MOST_ROUNDS := tMOST_ROUNDS
  c_MOST_ROUNDS := PySem.W.mg_of X G xMOST_ROUNDS
  w_WIDTHS := wWIDTHS
  c_WIDTHS := PySem.W.mg_of X G xWIDTHS
  q_WIDTHS := fun _ => .inr ⟨_, _, _, yWIDTHS, rfl, rfl, (by show 13 ≤ sizeLine; decide), (.cons ⟨tWIDTHS0, rfl⟩ (.cons ⟨tWIDTHS1, rfl⟩ (.cons ⟨tWIDTHS2, rfl⟩ (.cons ⟨tWIDTHS3, rfl⟩ (.cons ⟨tWIDTHS4, rfl⟩ (.cons ⟨tWIDTHS5, rfl⟩ (.cons ⟨tWIDTHS6, rfl⟩ (.cons ⟨tWIDTHS7, rfl⟩ (.cons ⟨tWIDTHS8, rfl⟩ (.cons ⟨tWIDTHS9, rfl⟩ (.cons ⟨tWIDTHS10, rfl⟩ (.cons ⟨tWIDTHS11, rfl⟩ (.cons ⟨tWIDTHS12, rfl⟩ .nil)))))))))))))⟩
  n_len := PySem.W.mg_none_of X G blen
  n_range := PySem.W.mg_none_of X G brange
  n_set := PySem.W.mg_none_of X G bset
  n_sorted := PySem.W.mg_none_of X G bsorted
  n_sum := PySem.W.mg_none_of X G bsum
  fInit := fInit
  dInit := _
  FInit := fun_mk (st := sInit) lInit cInit kInit
  mInit := ⟨aInit, iInit, kInit⟩
  fBegin := fBegin
  dBegin := _
  FBegin := fun_mk (st := sBegin) lBegin cBegin kBegin
  mBegin := ⟨aBegin, iBegin, kBegin⟩
  fHas := fHas
  dHas := _
  FHas := fun_mk (st := sHas) lHas cHas kHas
  mHas := ⟨aHas, iHas, kHas⟩
  fCounted := fCounted
  dCounted := _
  FCounted := fun_mk (st := sCounted) lCounted cCounted kCounted
  mCounted := ⟨aCounted, iCounted, kCounted⟩
  fSaid := fSaid
  dSaid := _
  FSaid := fun_mk (st := sSaid) lSaid cSaid kSaid
  mSaid := ⟨aSaid, iSaid, kSaid⟩
  fWould := fWould
  dWould := _
  FWould := fun_mk (st := sWould) lWould cWould kWould
  mWould := ⟨aWould, iWould, kWould⟩
  fVisit := fVisit
  dVisit := _
  FVisit := fun_mk (st := sVisit) lVisit cVisit kVisit
  mVisit := ⟨aVisit, iVisit, kVisit⟩
  fUndo := fUndo
  dUndo := _
  FUndo := fun_mk (st := sUndo) lUndo cUndo kUndo
  mUndo := ⟨aUndo, iUndo, kUndo⟩
  fRound := fRound
  dRound := _
  FRound := fun_mk (st := sRound) lRound cRound kRound
  mRound := ⟨aRound, iRound, kRound⟩
  fBeen := fBeen
  dBeen := _
  FBeen := fun_mk (st := sBeen) lBeen cBeen kBeen
  mBeen := ⟨aBeen, iBeen, kBeen⟩
  fAllBeen := fAllBeen
  dAllBeen := _
  FAllBeen := fun_mk (st := sAllBeen) lAllBeen cAllBeen kAllBeen
  mAllBeen := ⟨aAllBeen, iAllBeen, kAllBeen⟩
  fIsSure := fIsSure
  dIsSure := _
  FIsSure := fun_mk (st := sIsSure) lIsSure cIsSure kIsSure
  mIsSure := ⟨aIsSure, iIsSure, kIsSure⟩
  fIsComing := fIsComing
  dIsComing := _
  FIsComing := fun_mk (st := sIsComing) lIsComing cIsComing kIsComing
  mIsComing := ⟨aIsComing, iIsComing, kIsComing⟩
  fTillWrong := fTillWrong
  dTillWrong := _
  FTillWrong := fun_mk (st := sTillWrong) lTillWrong cTillWrong kTillWrong
  mTillWrong := ⟨aTillWrong, iTillWrong, kTillWrong⟩
  fLeft := fLeft
  dLeft := _
  FLeft := fun_mk (st := sLeft) lLeft cLeft kLeft
  mLeft := ⟨aLeft, iLeft, kLeft⟩
  fCanSaid := fCanSaid
  dCanSaid := _
  FCanSaid := fun_mk (st := sCanSaid) lCanSaid cCanSaid kCanSaid
  mCanSaid := ⟨aCanSaid, iCanSaid, kCanSaid⟩
  fTillSaid := fTillSaid
  dTillSaid := _
  FTillSaid := fun_mk (st := sTillSaid) lTillSaid cTillSaid kTillSaid
  mTillSaid := ⟨aTillSaid, iTillSaid, kTillSaid⟩
  fLeast := fLeast
  dLeast := _
  FLeast := fun_mk (st := sLeast) lLeast cLeast kLeast
  gLeast := PySem.W.mg_of X G aLeast
  kLeast := kLeast
  fGreat := fGreat
  dGreat := _
  FGreat := fun_mk (st := sGreat) lGreat cGreat kGreat
  gGreat := PySem.W.mg_of X G aGreat
  kGreat := kGreat
  fFewest := fFewest
  dFewest := _
  FFewest := fun_mk (st := sFewest) lFewest cFewest kFewest
  gFewest := PySem.W.mg_of X G aFewest
  kFewest := kFewest
  fAsNum := fAsNum
  dAsNum := _
  FAsNum := fun_mk (st := sAsNum) lAsNum cAsNum kAsNum
  gAsNum := PySem.W.mg_of X G aAsNum
  kAsNum := kAsNum
  fWithin := fWithin
  dWithin := _
  FWithin := fun_mk (st := sWithin) lWithin cWithin kWithin
  gWithin := PySem.W.mg_of X G aWithin
  kWithin := kWithin
  fFits := fFits
  dFits := _
  FFits := fun_mk (st := sFits) lFits cFits kFits
  gFits := PySem.W.mg_of X G aFits
  kFits := kFits
  fACell := fACell
  dACell := _
  FACell := fun_mk (st := sACell) lACell cACell kACell
  gACell := PySem.W.mg_of X G aACell
  kACell := kACell
  fACall := fACall
  dACall := _
  FACall := fun_mk (st := sACall) lACall cACall kACall
  gACall := PySem.W.mg_of X G aACall
  kACall := kACall
  fARounds := fARounds
  dARounds := _
  FARounds := fun_mk (st := sARounds) lARounds cARounds kARounds
  gARounds := PySem.W.mg_of X G aARounds
  kARounds := kARounds
  fABack := fABack
  dABack := _
  FABack := fun_mk (st := sABack) lABack cABack kABack
  gABack := PySem.W.mg_of X G aABack
  kABack := kABack
  fAShows := fAShows
  dAShows := _
  FAShows := fun_mk (st := sAShows) lAShows cAShows kAShows
  gAShows := PySem.W.mg_of X G aAShows
  kAShows := kAShows
  fABeen := fABeen
  dABeen := _
  FABeen := fun_mk (st := sABeen) lABeen cABeen kABeen
  gABeen := PySem.W.mg_of X G aABeen
  kABeen := kABeen
  fATurned := fATurned
  dATurned := _
  FATurned := fun_mk (st := sATurned) lATurned cATurned kATurned
  gATurned := PySem.W.mg_of X G aATurned
  kATurned := kATurned
  fARight := fARight
  dARight := _
  FARight := fun_mk (st := sARight) lARight cARight kARight
  gARight := PySem.W.mg_of X G aARight
  kARight := kARight
  fASure := fASure
  dASure := _
  FASure := fun_mk (st := sASure) lASure cASure kASure
  gASure := PySem.W.mg_of X G aASure
  kASure := kASure
  fAComes := fAComes
  dAComes := _
  FAComes := fun_mk (st := sAComes) lAComes cAComes kAComes
  gAComes := PySem.W.mg_of X G aAComes
  kAComes := kAComes
  fANumbers := fANumbers
  dANumbers := _
  FANumbers := fun_mk (st := sANumbers) lANumbers cANumbers kANumbers
  gANumbers := PySem.W.mg_of X G aANumbers
  kANumbers := kANumbers
  fAWrong := fAWrong
  dAWrong := _
  FAWrong := fun_mk (st := sAWrong) lAWrong cAWrong kAWrong
  gAWrong := PySem.W.mg_of X G aAWrong
  kAWrong := kAWrong
  fASoon := fASoon
  dASoon := _
  FASoon := fun_mk (st := sASoon) lASoon cASoon kASoon
  gASoon := PySem.W.mg_of X G aASoon
  kASoon := kASoon
  fAnswer := fAnswer
  dAnswer := _
  FAnswer := fun_mk (st := sAnswer) lAnswer cAnswer kAnswer
  gAnswer := PySem.W.mg_of X G aAnswer
  kAnswer := kAnswer
  fAnswers := fAnswers
  dAnswers := _
  FAnswers := fun_mk (st := sAnswers) lAnswers cAnswers kAnswers
  gAnswers := PySem.W.mg_of X G aAnswers
  kAnswers := kAnswers
end LP
end

section
set_option Elab.async false
set_option linter.all false
set_option maxRecDepth 100000
set_option Elab.async false
set_option linter.all false
set_option maxRecDepth 100000
namespace LP
open PySem PySem.Spec PyProof.Rows L2 LM
theorem in_of {x : Int} (h : PySem.W.Codec.inInt 0 4294967295 x = true) : inn x := by
  unfold PySem.W.Codec.inInt at h
  rw [Bool.and_eq_true, decide_eq_true_eq, decide_eq_true_eq] at h
  exact h
theorem widths_at {z : Int} {n : Nat} (h : PyUx07.shape z = some (n, 0)) : atI ([.int 5, .int 1, .int 1, .int 0, .int 0, .int 0, .int 1, .int 0, .int 0, .int 0, .int 0, .int 0, .int 0] : List V) z = some (.int (n : Nat)) := by
  obtain ⟨_, _, hz⟩ := shape_cases h
  rcases hz with ⟨rfl, rfl⟩ | ⟨rfl | rfl | rfl, rfl⟩ | ⟨rfl | rfl | rfl | rfl | rfl | rfl | rfl | rfl | rfl, rfl⟩ <;> rfl
theorem close {P : Program} {w : World} {K : PySem.W.Frag} {mg : Str → Option Value} {fa : Addr} (p : Prg K mg) (hfa : mg "answers" = some (.ref fa)) :
    ∃ fd : FuncData, (∀ (s : Shared) (us : List Value), us.length = PAnswers.length → BindsTo s fd ⟨us, []⟩ (PAnswers.zip us)) ∧ ∀ base : Heap, K.In base → base.Ns mainGlobals mg → FnOk P w K mg base CX0 6 fa fd PAnswers (spAnswers K) := by
  have e : fa = p.fAnswers := by
    have z := hfa.symm.trans p.gAnswers
    cases z
    rfl
  subst e
  refine ⟨p.dAnswers, fun s us hu => ?_, fun base _ _ => ok_answers p (ok_answer p) p.q_WIDTHS fun z n h => widths_at h⟩
  obtain ⟨oc, od, kV, doc, pm, an, cdv, ct, osl, e, _, _⟩ := p.FAnswers.ex
  rw [e]
  exact match us, hu with | [_], _ => .of_eq rfl
end LP
end

section
set_option Elab.async false
set_option linter.all false
set_option maxRecDepth 100000
set_option Elab.async false
open PySem PySem.W PyProof.Rows
set_option maxRecDepth 100000 in
set_option maxHeartbeats 0 in
theorem PySem.Challenge.cw_lampcell_s01_answers_holds : PySem.Challenge.rw_lampcell_s01_answers.Holds := by
  w_on; k_headS; (case hw => exact ⟨[.list [.int 4]], by decide +kernel, by decide +kernel⟩)
  k_fillS
  refine L2.walk_specK (r := PySem.Challenge.rw_lampcell_s01_answers) (k := 6) (CX := L2.CX0) (ps := LP.PAnswers) (sp := LP.spAnswers) (by decide +kernel) rfl rfl ⟨rfl, by decide, by decide⟩ (fun w h Y => PySem.W.kIn_of Y) ?F ?S (fun _ _ _ _ z => z)
  case F =>
    intro w mg fa h Y KX G hmg
    refine LP.close (w := w) (mg := mg) (fa := fa) ?P hmg
    refine' LP.prg_mk KX G ?aC ?aInit ?iInit ?lInit ?cInit ?kInit ?aBegin ?iBegin ?lBegin ?cBegin ?kBegin ?aHas ?iHas ?lHas ?cHas ?kHas ?aCounted ?iCounted ?lCounted ?cCounted ?kCounted ?aSaid ?iSaid ?lSaid ?cSaid ?kSaid ?aWould ?iWould ?lWould ?cWould ?kWould ?aVisit ?iVisit ?lVisit ?cVisit ?kVisit ?aUndo ?iUndo ?lUndo ?cUndo ?kUndo ?aRound ?iRound ?lRound ?cRound ?kRound ?aBeen ?iBeen ?lBeen ?cBeen ?kBeen ?aAllBeen ?iAllBeen ?lAllBeen ?cAllBeen ?kAllBeen ?aIsSure ?iIsSure ?lIsSure ?cIsSure ?kIsSure ?aIsComing ?iIsComing ?lIsComing ?cIsComing ?kIsComing ?aTillWrong ?iTillWrong ?lTillWrong ?cTillWrong ?kTillWrong ?aLeft ?iLeft ?lLeft ?cLeft ?kLeft ?aCanSaid ?iCanSaid ?lCanSaid ?cCanSaid ?kCanSaid ?aTillSaid ?iTillSaid ?lTillSaid ?cTillSaid ?kTillSaid ?aLeast ?lLeast ?cLeast ?kLeast ?aGreat ?lGreat ?cGreat ?kGreat ?aFewest ?lFewest ?cFewest ?kFewest ?aAsNum ?lAsNum ?cAsNum ?kAsNum ?aWithin ?lWithin ?cWithin ?kWithin ?aFits ?lFits ?cFits ?kFits ?aACell ?lACell ?cACell ?kACell ?aACall ?lACall ?cACall ?kACall ?aARounds ?lARounds ?cARounds ?kARounds ?aABack ?lABack ?cABack ?kABack ?aAShows ?lAShows ?cAShows ?kAShows ?aABeen ?lABeen ?cABeen ?kABeen ?aATurned ?lATurned ?cATurned ?kATurned ?aARight ?lARight ?cARight ?kARight ?aASure ?lASure ?cASure ?kASure ?aAComes ?lAComes ?cAComes ?kAComes ?aANumbers ?lANumbers ?cANumbers ?kANumbers ?aAWrong ?lAWrong ?cAWrong ?kAWrong ?aASoon ?lASoon ?cASoon ?kASoon ?aAnswer ?lAnswer ?cAnswer ?kAnswer ?aAnswers ?lAnswers ?cAnswers ?kAnswers ?pg ?hd ?po ?sa ?mk ?kc ?npeople ?ntimes ?ngoal ?nknown ?nlamp ?nvisits ?nturns ?xCOUNTER ?xCELL ?xCALL ?xROUNDS ?xBACK ?xSHOWS ?xBEEN ?xTURNED ?xRIGHT ?xSURE ?xCOMES ?xNUMBERS ?xWRONG ?xOUT_OF_BOUNDS ?xNO_SUCH_PERSON ?xNOT_SAID ?xNOBODY_CALLED ?xALREADY_SAID ?xMOST_PEOPLE ?xMOST_TIMES ?xMOST_GOAL ?xMOST_ROUNDS ?xWIDTHS ?yWIDTHS ?blen ?brange ?bset ?bsorted ?bsum
    (case aC => k_is); (case aInit => k_is); (case iInit => k_is); (case lInit => k_is); (case cInit => k_is); (case kInit => k_is)
    (case aBegin => k_is); (case iBegin => k_is); (case lBegin => k_is); (case cBegin => k_is); (case kBegin => k_is); (case aHas => k_is)
    (case iHas => k_is); (case lHas => k_is); (case cHas => k_is); (case kHas => k_is); (case aCounted => k_is); (case iCounted => k_is)
    (case lCounted => k_is); (case cCounted => k_is); (case kCounted => k_is); (case aSaid => k_is); (case iSaid => k_is); (case lSaid => k_is)
    (case cSaid => k_is); (case kSaid => k_is); (case aWould => k_is); (case iWould => k_is); (case lWould => k_is); (case cWould => k_is)
    (case kWould => k_is); (case aVisit => k_is); (case iVisit => k_is); (case lVisit => k_is); (case cVisit => k_is); (case kVisit => k_is)
    (case aUndo => k_is); (case iUndo => k_is); (case lUndo => k_is); (case cUndo => k_is); (case kUndo => k_is); (case aRound => k_is)
    (case iRound => k_is); (case lRound => k_is); (case cRound => k_is); (case kRound => k_is); (case aBeen => k_is); (case iBeen => k_is)
    (case lBeen => k_is); (case cBeen => k_is); (case kBeen => k_is); (case aAllBeen => k_is); (case iAllBeen => k_is); (case lAllBeen => k_is)
    (case cAllBeen => k_is); (case kAllBeen => k_is); (case aIsSure => k_is); (case iIsSure => k_is); (case lIsSure => k_is); (case cIsSure => k_is)
    (case kIsSure => k_is); (case aIsComing => k_is); (case iIsComing => k_is); (case lIsComing => k_is); (case cIsComing => k_is)
    (case kIsComing => k_is); (case aTillWrong => k_is); (case iTillWrong => k_is); (case lTillWrong => k_is); (case cTillWrong => k_is)
    (case kTillWrong => k_is); (case aLeft => k_is); (case iLeft => k_is); (case lLeft => k_is); (case cLeft => k_is); (case kLeft => k_is)
    (case aCanSaid => k_is); (case iCanSaid => k_is); (case lCanSaid => k_is); (case cCanSaid => k_is); (case kCanSaid => k_is)
    (case aTillSaid => k_is); (case iTillSaid => k_is); (case lTillSaid => k_is); (case cTillSaid => k_is); (case kTillSaid => k_is)
    (case aLeast => k_is); (case lLeast => k_is); (case cLeast => k_is); (case kLeast => k_is); (case aGreat => k_is); (case lGreat => k_is)
    (case cGreat => k_is); (case kGreat => k_is); (case aFewest => k_is); (case lFewest => k_is); (case cFewest => k_is); (case kFewest => k_is)
    (case aAsNum => k_is); (case lAsNum => k_is); (case cAsNum => k_is); (case kAsNum => k_is); (case aWithin => k_is); (case lWithin => k_is)
    (case cWithin => k_is); (case kWithin => k_is); (case aFits => k_is); (case lFits => k_is); (case cFits => k_is); (case kFits => k_is)
    (case aACell => k_is); (case lACell => k_is); (case cACell => k_is); (case kACell => k_is); (case aACall => k_is); (case lACall => k_is)
    (case cACall => k_is); (case kACall => k_is); (case aARounds => k_is); (case lARounds => k_is); (case cARounds => k_is); (case kARounds => k_is)
    (case aABack => k_is); (case lABack => k_is); (case cABack => k_is); (case kABack => k_is); (case aAShows => k_is); (case lAShows => k_is)
    (case cAShows => k_is); (case kAShows => k_is); (case aABeen => k_is); (case lABeen => k_is); (case cABeen => k_is); (case kABeen => k_is)
    (case aATurned => k_is); (case lATurned => k_is); (case cATurned => k_is); (case kATurned => k_is); (case aARight => k_is)
    (case lARight => k_is); (case cARight => k_is); (case kARight => k_is); (case aASure => k_is); (case lASure => k_is); (case cASure => k_is)
    (case kASure => k_is); (case aAComes => k_is); (case lAComes => k_is); (case cAComes => k_is); (case kAComes => k_is); (case aANumbers => k_is)
    (case lANumbers => k_is); (case cANumbers => k_is); (case kANumbers => k_is); (case aAWrong => k_is); (case lAWrong => k_is)
    (case cAWrong => k_is); (case kAWrong => k_is); (case aASoon => k_is); (case lASoon => k_is); (case cASoon => k_is); (case kASoon => k_is)
    (case aAnswer => k_is); (case lAnswer => k_is); (case cAnswer => k_is); (case kAnswer => k_is); (case aAnswers => k_is); (case lAnswers => k_is)
    (case cAnswers => k_is); (case kAnswers => k_is); (case pg => k_is); (case hd => k_is); (case po => k_is); (case sa => k_is); (case mk => k_is)
    (case kc => k_is); (case npeople => k_is); (case ntimes => k_is); (case ngoal => k_is); (case nknown => k_is); (case nlamp => k_is)
    (case nvisits => k_is); (case nturns => k_is); (case xCOUNTER => k_is); (case xCELL => k_is); (case xCALL => k_is); (case xROUNDS => k_is)
    (case xBACK => k_is); (case xSHOWS => k_is); (case xBEEN => k_is); (case xTURNED => k_is); (case xRIGHT => k_is); (case xSURE => k_is)
    (case xCOMES => k_is); (case xNUMBERS => k_is); (case xWRONG => k_is); (case xOUT_OF_BOUNDS => k_is); (case xNO_SUCH_PERSON => k_is)
    (case xNOT_SAID => k_is); (case xNOBODY_CALLED => k_is); (case xALREADY_SAID => k_is); (case xMOST_PEOPLE => k_is); (case xMOST_TIMES => k_is)
    (case xMOST_GOAL => k_is); (case xMOST_ROUNDS => k_is); (case xWIDTHS => k_is); (case yWIDTHS => k_is); (case blen => k_is)
    (case brange => k_is); (case bset => k_is); (case bsorted => k_is); (case bsum => k_is)
  case S =>
    intro K H xs a hO hwi hask hx
    cases hx with
    | cons h1 h2 =>
      cases h2
      cases h1 with
      | lst hs ha =>
        have e := L2.ints_dw a.1 _ ha
        subst e
        have q : ((Codec.inLen 0 240 a.1 && a.1.all (Codec.inInt 0 4294967295)) && true) = true := hwi
        rw [Bool.and_eq_true, Bool.and_eq_true] at q
        exact ⟨_, a.1, rfl, hs, hO, (Codec.inNat_iff.mp q.1.1).2, fun x hx => LP.in_of (List.all_eq_true.mp q.1.2 x hx), hask, fun H' p hp => .lst (L2.SqL.of hp) (L2.dw_ints _)⟩
end
