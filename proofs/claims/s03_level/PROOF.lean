import PyProof.Rows.All
import Wide.All
import OpenK.AllK
import Wide.FinOn
import PyProof.EqAt
import PyProof.EqKinds
import PyProof.TupleCall
import KE.BitLaws
import Open.SpecLaws
import KE.OsHead
import KE.OsGo
import EhPlace
import PyYqbefa
import PySem.Challenge.RW_hearingplaces_s03_level
section
local macro_rules | `(tactic| trivial) => `(tactic| first | lia -abstractProof | omega)
set_option Elab.async false
set_option linter.all false
set_option maxRecDepth 100000
namespace L2
open PySem PySem.Spec PyProof.Rows
abbrev Key := Sum Int Str
def keyIs : Key → Value → Bool
  | .inl k, v => Value.isInt k v
  | .inr x, v => Value.isStrOf x v
def keyH (w : World) : Key → Int
  | .inl k => hashInt k
  | .inr x => hashStr w x
theorem keyIs_shape : ∀ {k : Key} {v : Value}, keyIs k v = true → (∃ i t, k = Sum.inl i ∧ v = Value.int i t) ∨ (∃ x t, k = Sum.inr x ∧ v = Value.str x t)
  | .inl i, v, h => by
    obtain ⟨t, e⟩ := Value.isInt_shape (k := i) (v := v) h
    exact .inl ⟨i, t, rfl, e⟩
  | .inr x, v, h => by
    obtain ⟨t, e⟩ := Value.isStrOf_shape (x := x) (v := v) h
    exact .inr ⟨x, t, rfl, e⟩
theorem key_ll (a b : Int) : decide ((Sum.inl a : Key) = Sum.inl b) = (a == b) := by
  by_cases e : a = b
  · subst e; simp
  · have h : ¬ (Sum.inl a : Key) = Sum.inl b := fun q => e (Sum.inl.inj q)
    rw [decide_eq_false h]
    exact (beq_eq_false_iff_ne.mpr e).symm
theorem key_rr (a b : Str) : decide ((Sum.inr a : Key) = Sum.inr b) = decide (a = b) := by
  by_cases e : a = b
  · subst e; simp
  · have h : ¬ (Sum.inr a : Key) = Sum.inr b := fun q => e (Sum.inr.inj q)
    rw [decide_eq_false h, decide_eq_false e]
theorem key_lr (a : Int) (b : Str) : decide ((Sum.inl a : Key) = Sum.inr b) = false := decide_eq_false (fun q => nomatch q)
theorem key_rl (a : Str) (b : Int) : decide ((Sum.inr a : Key) = Sum.inl b) = false := decide_eq_false (fun q => nomatch q)
def mixKind (prog : Program) (w : World) : PySem.KeyKind prog w Key where
  is := keyIs
  hash := keyH w
  inj := fun v a b ha hb => by
    rcases keyIs_shape ha with ⟨i, t, rfl, rfl⟩ | ⟨x, t, rfl, rfl⟩
    · rcases keyIs_shape hb with ⟨j, u, rfl, e⟩ | ⟨y, u, rfl, e⟩
      · injection e with e1 _; rw [e1]
      · exact nomatch e
    · rcases keyIs_shape hb with ⟨j, u, rfl, e⟩ | ⟨y, u, rfl, e⟩
      · exact nomatch e
      · injection e with e1 _; rw [e1]
  byValue := fun k v h => by
    rcases keyIs_shape h with ⟨i, t, rfl, rfl⟩ | ⟨x, t, rfl, rfl⟩ <;> rfl
  pyHash := fun hv h => by
    rcases keyIs_shape hv with ⟨i, t, rfl, rfl⟩ | ⟨x, t, rfl, rfl⟩
    · exact wpAny_pyHash_int h
    · exact wpAny_pyHash_str h
  eqBool := fun hu hv h => by
    rcases keyIs_shape hu with ⟨i, t, rfl, rfl⟩ | ⟨x, t, rfl, rfl⟩
    · rcases keyIs_shape hv with ⟨j, u, rfl, rfl⟩ | ⟨y, u, rfl, rfl⟩
      · rw [key_ll] at h; exact wpAny_eqBool_int h
      · rw [key_lr] at h; exact SeqAt.EqAt.int_str i t y u _ _ _ _ h
    · rcases keyIs_shape hv with ⟨j, u, rfl, rfl⟩ | ⟨y, u, rfl, rfl⟩
      · rw [key_rl] at h; exact SeqAt.EqAt.str_int x t j u _ _ _ _ h
      · rw [key_rr] at h; exact wpAny_eqBool_str h
  «strs» := fun k x t v h => by
    rcases keyIs_shape h with ⟨i, u, rfl, e⟩ | ⟨y, u, rfl, e⟩
    · exact nomatch e
    · injection e with e1 _
      subst e1
      cases v <;> rfl
end L2
namespace L2
open PySem PySem.Spec PyProof.Rows
inductive V where
  | non | bl (b : Bool) | int (i : Int) | str (x : Str) | byt (b : Array UInt8) | flt (b : UInt64) | ref (a : Addr) | ty (n : String)
  deriving DecidableEq
def RelV : V → Value → Prop
  | .non, u => u = Value.none
  | .bl b, u => u = Value.bool b
  | .int i, u => ∃ t, u = Value.int i t
  | .str x, u => ∃ t, u = Value.str x t
  | .byt b, u => ∃ t, u = Value.bytes b t
  | .flt b, u => ∃ t, u = Value.float b t
  | .ref a, u => u = Value.ref a
  | .ty n, u => u = Value.type n
abbrev Vals : List V → List Value → Prop := Paired RelV
theorem Vals.length {xs : List V} {us : List Value} (r : Vals xs us) : xs.length = us.length := Paired.length r
theorem Vals.get : ∀ {xs : List V} {us : List Value} {i : Nat} {x : V}, Vals xs us → xs[i]? = some x → ∃ u, us[i]? = some u ∧ RelV x u
  | _, _, _, _, .nil, e => by simp at e
  | _, _, 0, _, .cons r _, e => by simp at e; subst e; exact ⟨_, rfl, r⟩
  | _, _, i + 1, x, .cons _ t, e => by
    obtain ⟨u, h1, h2⟩ := Vals.get (i := i) (x := x) t (by simpa using e)
    exact ⟨u, by simpa using h1, h2⟩
theorem Vals.append : ∀ {xs ys : List V} {us ws : List Value}, Vals xs us → Vals ys ws → Vals (xs ++ ys) (us ++ ws)
  | _, _, _, _, .nil, s => s
  | _, _, _, _, .cons r t, s => .cons r (Vals.append t s)
theorem Vals.take : ∀ {xs : List V} {us : List Value} (n : Nat), Vals xs us → Vals (xs.take n) (us.take n)
  | _, _, 0, _ => .nil
  | _, _, _ + 1, .nil => .nil
  | _, _, n + 1, .cons r t => .cons r (Vals.take n t)
theorem Vals.drop : ∀ {xs : List V} {us : List Value} (n : Nat), Vals xs us → Vals (xs.drop n) (us.drop n)
  | _, _, 0, r => r
  | _, _, _ + 1, .nil => .nil
  | _, _, n + 1, .cons _ t => Vals.drop n t
def RelO : Option V → Option Value → Prop
  | some v, some u => RelV v u
  | none, none => True
  | _, _ => False
def KV {κ : Type} : List (κ × V) → List (κ × Value) → Prop := Paired fun (p : κ × V) (q : κ × Value) => p.1 = q.1 ∧ RelV p.2 q.2
def kV : Key → V
  | .inl i => .int i
  | .inr x => .str x
inductive HO where
    | lst (xs : List V)
    | tup (xs : List V)
    | dK (kvs : List (Key × V)) | dT (kvs : List (List Key × V))
    | set (S : Int → Bool) (n : Nat)
    | ins (C dx : Addr) (fs : List (Str × V))
    | own (x : Addr)
    | xd (fs : List (Str × V))
    | met (f x : Addr)
    | rng (lo hi : Int)
    | frz (o : Obj) (u : HO)
    | tbl (ps : Array Value)
    | ext (φ : Heap → Prop)
abbrev Hp := Addr → Option HO
def upd (H : Hp) (a : Addr) (o : HO) : Hp := fun b => if b = a then some o else H b
theorem upd_same {H : Hp} {a : Addr} {o : HO} : upd H a o a = some o := by unfold upd; rw [if_pos rfl]
theorem upd_ne {H : Hp} {a b : Addr} {o : HO} (h : b ≠ a) : upd H a o b = H b := by unfold upd; rw [if_neg h]
theorem ne_of_none {H : Hp} {a b : Addr} {o : HO} (h : H a = some o) (h' : H b = none) : a ≠ b := by
  intro e; subst e; rw [h] at h'; cases h'
section
variable (P : Program) (w : World)
def ObjOk (H : Hp) (h : Heap) (a : Addr) : HO → Prop
  | .lst xs => xs.length ≤ sizeLine ∧ ∃ (its : List Value) (n : Nat), Vals xs its ∧ h.get? a = some { cls := .type "list", data := .seq its.toArray n }
  | .tup xs => xs.length ≤ sizeLine ∧ ∃ its : List Value, Vals xs its ∧ IsTup h a its.toArray
  | .dK kvs => kvs.length ≤ sizeLine ∧ (a == sysModules) = false ∧ ∃ vs, KV kvs vs ∧ h.DictOf (mixKind P w) a vs
  | .dT kvs => kvs.length ≤ sizeLine ∧ (a == sysModules) = false ∧ ∃ xs : List (List Key × Addr × Value),
      Paired (fun (p : List Key × V) (q : List Key × Addr × Value) => p.1 = q.1 ∧ H q.2.1 = some (.tup (p.1.map kV)) ∧ RelV p.2 q.2.2) kvs xs ∧
      ∃ o es ep, h.get? a = some o ∧ o.ExactDict ∧ o.data = .dict es ep ∧ es.toList = xs.map (entryOfKey (tupleKind (mixKind P w))) ∧ (xs.map (·.1)).Nodup
  | .set S n => h.SetOf (intKind P w) a S n
  | .ins C dx fs => H dx = some (.own a) ∧ fs.length ≤ 1000 ∧ dx ≠ a ∧ h.get? a = some (PySem.W.instObj C dx) ∧
      ∃ mA, h.Ns1 dx mA ∧ (∀ f, RelO (fs.lookup f) (mA f)) ∧ PySem.Within mA (fs.map (·.1))
  | .own _ => ∃ o, h.get? a = some o
  | .xd fs => ∃ mA, h.Ns1 a mA ∧ ∀ f, RelO (fs.lookup f) (mA f)
  | .rng lo hi => ∃ t u v, h.get? a = some { cls := .type "range", data := .fields #[.int lo t, .int hi u, .int 1 v] }
  | .frz o u => h.get? a = some o ∧ ObjOk H h a u
  | .tbl ps => h.get? a = some { cls := .none, data := .fields ps }
  | .met f x => h.get? a = some (PySem.W.methodObj (.ref f) (.ref x))
  | .ext φ => φ h ∧ (∃ o, h.get? a = some o) ∧ ∀ h1 h2 : Heap, φ h1 → (∀ o, h1.get? a = some o → h2.get? a = some o) → φ h2
def HOk (H : Hp) (h : Heap) : Prop := ∀ a o, H a = some o → ObjOk P w H h a o
end
section
variable {P : Program} {w : World} {H H' : Hp} {h h' : Heap} {a : Addr} {o : HO}
theorem ObjOk.lt (x : ObjOk P w H h a o) : a < h.objs.size := by
  cases o with
  | lst xs => obtain ⟨_, _, _, _, e⟩ := x; exact Heap.lt_size e
  | tup xs => obtain ⟨_, _, _, p⟩ := x; exact p.lt
  | dK kvs => obtain ⟨_, _, _, _, o, _, _, e, _⟩ := x; exact Heap.lt_size e
  | dT kvs => obtain ⟨_, _, _, _, o, _, _, e, _⟩ := x; exact Heap.lt_size e
  | set S n => obtain ⟨o, _, _, _, e, _⟩ := x; exact Heap.lt_size e
  | ins C dx fs => obtain ⟨_, _, _, e, _⟩ := x; exact Heap.lt_size e
  | own y => obtain ⟨_, e⟩ := x; exact Heap.lt_size e
  | xd fs => obtain ⟨_, ⟨_, _, _, e, _⟩, _⟩ := x; exact Heap.lt_size e
  | rng lo hi => obtain ⟨_, _, _, e⟩ := x; exact Heap.lt_size e
  | frz ob u => obtain ⟨e, _⟩ := x; exact Heap.lt_size e
  | tbl ps => exact Heap.lt_size (show h.get? a = some _ from x)
  | met f y => exact Heap.lt_size (show h.get? a = some _ from x)
  | ext φ => obtain ⟨_, ⟨_, e⟩, _⟩ := x; exact Heap.lt_size e
theorem Paired.mapP {α β : Type} {F G : α → β → Prop} : ∀ {l₁ : List α} {l₂ : List β}, Paired F l₁ l₂ → (∀ a b, F a b → G a b) → Paired G l₁ l₂
  | _, _, .nil, _ => .nil
  | _, _, .cons r t, f => .cons (f _ _ r) (Paired.mapP t f)
theorem ObjOk.stay (x : ObjOk P w H h a o) (k : ∀ b u, (b = a ∨ H b = some (.own a)) → h.get? b = some u → h'.get? b = some u)
    (ho : ∀ b, H b = some (.own a) → H' b = some (.own a)) (ht : ∀ b xs, H b = some (.tup xs) → H' b = some (.tup xs)) : ObjOk P w H' h' a o := by
  induction o with
  | lst xs => obtain ⟨z, its, n, r, e⟩ := x; exact ⟨z, its, n, r, k _ _ (.inl rfl) e⟩
  | tup xs => obtain ⟨z, its, r, ob, e, c⟩ := x; exact ⟨z, its, r, ob, k _ _ (.inl rfl) e, c⟩
  | dK kvs => obtain ⟨z, y, vs, r, ob, es, ep, e, c⟩ := x; exact ⟨z, y, vs, r, ob, es, ep, k _ _ (.inl rfl) e, c⟩
  | dT kvs =>
    obtain ⟨z, y, xs, r, ob, es, ep, e, c⟩ := x
    exact ⟨z, y, xs, Paired.mapP r fun p q z => ⟨z.1, ht _ _ z.2.1, z.2.2⟩, ob, es, ep, k _ _ (.inl rfl) e, c⟩
  | set S n => obtain ⟨ob, es, ep, t, e, c⟩ := x; exact ⟨ob, es, ep, t, k _ _ (.inl rfl) e, c⟩
  | ins C dx fs =>
    obtain ⟨d, z, ne, e, mA, ⟨od, es, ep, e2, c⟩, r⟩ := x
    exact ⟨ho _ d, z, ne, k _ _ (.inl rfl) e, mA, ⟨od, es, ep, k _ _ (.inr d) e2, c⟩, r⟩
  | own y => obtain ⟨ob, e⟩ := x; exact ⟨ob, k _ _ (.inl rfl) e⟩
  | xd fs => obtain ⟨mA, ⟨od, es, ep, e, c⟩, r⟩ := x; exact ⟨mA, ⟨od, es, ep, k _ _ (.inl rfl) e, c⟩, r⟩
  | rng lo hi => obtain ⟨t, u, v, e⟩ := x; exact ⟨t, u, v, k _ _ (.inl rfl) e⟩
  | frz ob u ih => obtain ⟨e, q⟩ := x; exact ⟨k _ _ (.inl rfl) e, ih q⟩
  | tbl ps =>
    have e : h.get? a = some { cls := .none, data := .fields ps } := x
    show h'.get? a = some { cls := .none, data := .fields ps }
    exact k a _ (.inl rfl) e
  | met f y =>
    have e : h.get? a = some (PySem.W.methodObj (.ref f) (.ref y)) := x
    show h'.get? a = some (PySem.W.methodObj (.ref f) (.ref y))
    exact k a _ (.inl rfl) e
  | ext φ => obtain ⟨p, ⟨o, e⟩, st⟩ := x; exact ⟨st _ _ p fun o q => k _ _ (.inl rfl) q, ⟨o, k _ _ (.inl rfl) e⟩, st⟩
theorem HOk.lt (x : HOk P w H h) (e : H a = some o) : a < h.objs.size := (x a o e).lt
theorem HOk.fresh (x : HOk P w H h) (e : h.objs.size ≤ a) : H a = none := by
  cases q : H a with
  | none => rfl
  | some u => exact absurd (Nat.lt_of_lt_of_le (x.lt q) e) (Nat.lt_irrefl _)
theorem HOk.kept (x : HOk P w H h) (k : ∀ b u, h.get? b = some u → h'.get? b = some u) : HOk P w H h' := fun a o e =>
  (x a o e).stay (fun b u _ q => k b u q) (fun _ q => q) fun _ _ q => q
theorem HOk.laid (x : HOk P w H h) (k : ∀ b u, h.get? b = some u → h'.get? b = some u) (hp : h.objs.size ≤ a) (new : ObjOk P w (upd H a o) h' a o) : HOk P w (upd H a o) h' := fun b u e => by
  have hn := x.fresh hp
  by_cases hb : b = a
  · subst hb; rw [upd_same] at e; cases e; exact new
  · rw [upd_ne hb] at e
    exact (x b u e).stay (fun c v _ q => k c v q) (fun c q => by rw [upd_ne (ne_of_none q hn)]; exact q) fun c xs q => by rw [upd_ne (ne_of_none q hn)]; exact q
end
def Rd (H : Hp) (a : Addr) (u : HO) : Prop := H a = some u ∨ ∃ o, H a = some (.frz o u)
theorem Rd.ok {P : Program} {w : World} {H : Hp} {h : Heap} {a : Addr} {u : HO} (r : Rd H a u) (x : HOk P w H h) : ObjOk P w H h a u := by
  rcases r with r | ⟨o, r⟩
  · exact x a u r
  · obtain ⟨_, q⟩ := x a _ r
    exact q
def Mut : Option HO → Prop
  | some (.lst _) => True
  | some (.dK _) => True
  | some (.dT _) => True
  | some (.set _ _) => True
  | some (.ins _ _ _) => True
  | some (.ext _) => True
  | _ => False
section
variable {P : Program} {w : World} {H : Hp} {h h' : Heap} {x e : Addr} {o' : HO}
theorem HOk.write (ok : HOk P w H h) (mu : Mut (H x)) (he : e = x ∨ H e = some (.own x)) (k : ∀ b u, b ≠ e → h.get? b = some u → h'.get? b = some u) (heo : ∃ u, h'.get? e = some u)
    (new : ObjOk P w (upd H x o') h' x o') : HOk P w (upd H x o') h' := fun b u q => by
  have nown : ∀ c y, H c = some (.own y) → c ≠ x := fun c y r z => by subst z; rw [r] at mu; exact mu
  have ntup : ∀ c xs, H c = some (.tup xs) → c ≠ x := fun c xs r z => by subst z; rw [r] at mu; exact mu
  by_cases hb : b = x
  · subst hb; rw [upd_same] at q; cases q; exact new
  · rw [upd_ne hb] at q
    by_cases hbe : b = e
    · have q' : H b = some (.own x) := by
        rcases he with z | z
        · exact absurd (hbe.trans z) hb
        · rw [hbe]; exact z
      rw [q] at q'; cases q'
      obtain ⟨v, hv⟩ := heo
      exact ⟨v, by rw [hbe]; exact hv⟩
    · refine (ok b u q).stay (fun c v hc r => k c v ?_ r) (fun c r => by rw [upd_ne (nown c b r)]; exact r) fun c xs r => by rw [upd_ne (ntup c xs r)]; exact r
      rcases hc with rfl | hc
      · exact hbe
      · rintro rfl
        rcases he with z | z
        · exact nown c b hc z
        · rw [hc] at z; cases z; exact hb rfl
end
structure Un (fs ex : List Addr) (H H' : Hp) (h h' : Heap) : Prop where
  keep : ∀ b o, h.get? b = some o → H b = none → b ∉ fs → b ∉ ex → h'.get? b = some o
  slot : ∀ b o, h.get? b = some o → H b = none → b ∈ fs → b ∉ ex → ∃ sl, h'.get? b = some { o with slots := sl }
  free : ∀ b o, h.get? b = some o → H b = none → b ∉ ex → H' b = none
  there : ∀ b o, h.get? b = some o → b ∉ ex → ∃ o', h'.get? b = some o'
  tups : ∀ b xs, H b = some (.tup xs) → H' b = some (.tup xs)
  frzs : ∀ b o u, H b = some (.frz o u) → H' b = some (.frz o u)
  tbls : ∀ b ps, H b = some (.tbl ps) → ∃ more, H' b = some (.tbl (ps ++ more))
section
variable {fs fs' ex ex' : List Addr} {H H1 H2 : Hp} {h h1 h2 h' : Heap} {a x e : Addr} {o : HO}
theorem Un.any (u : Un fs ex H H1 h h1) {b : Addr} {ob : Obj} (q : h.get? b = some ob) (n : H b = none) (hx : b ∉ ex) : ∃ sl, h1.get? b = some { ob with slots := sl } := by
  by_cases hb : b ∈ fs
  · exact u.slot b ob q n hb hx
  · exact ⟨ob.slots, u.keep b ob q n hb hx⟩
theorem Un.kept (k : ∀ b u, h.get? b = some u → h'.get? b = some u) : Un fs ex H H h h' :=
  ⟨fun b ob q _ _ _ => k b ob q, fun b ob q _ _ _ => ⟨ob.slots, k b ob q⟩, fun _ _ _ n _ => n, fun b ob q _ => ⟨ob, k b ob q⟩, fun _ _ q => q, fun _ _ _ q => q, fun _ ps q => ⟨#[], by rw [q]; simp⟩⟩
theorem Un.refl : Un fs ex H H h h := Un.kept fun _ _ q => q
theorem Un.laid (k : ∀ b u, h.get? b = some u → h'.get? b = some u) (hp : h.objs.size ≤ a) (hn : H a = none) : Un fs ex H (upd H a o) h h' where
  keep := fun b u q _ _ _ => k b u q
  slot := fun b u q _ _ _ => ⟨u.slots, k b u q⟩
  free := fun b u q n _ => by rw [upd_ne (Nat.ne_of_lt (Nat.lt_of_lt_of_le (Heap.lt_size q) hp))]; exact n
  there := fun b u q _ => ⟨u, k b u q⟩
  tups := fun b xs q => by rw [upd_ne (ne_of_none q hn)]; exact q
  frzs := fun b u xs q => by rw [upd_ne (ne_of_none q hn)]; exact q
  tbls := fun b ps q => ⟨#[], by rw [upd_ne (ne_of_none q hn), q]; simp⟩
theorem Un.write (mu : Mut (H x)) (he : e = x ∨ H e = some (.own x)) (k : ∀ b u, b ≠ e → h.get? b = some u → h'.get? b = some u) (heo : ∃ u, h'.get? e = some u) : Un fs ex H (upd H x o) h h' := by
  have hx : ∀ b, H b = none → b ≠ x := fun b n z => by subst z; rw [n] at mu; exact mu
  have hb : ∀ b, H b = none → b ≠ e := fun b n z => by
    subst z
    rcases he with r | r
    · exact hx b n r
    · rw [n] at r; cases r
  have hm : ∀ b u, H b = some u → ¬ Mut (some u) → b ≠ x := fun b u q nm z => by subst z; rw [q] at mu; exact nm mu
  refine ⟨fun b u q n _ _ => k b u (hb b n) q, fun b u q n _ _ => ⟨u.slots, k b u (hb b n) q⟩, fun b u q n _ => by rw [upd_ne (hx b n)]; exact n, fun b u q _ => ?_,
    fun b xs q => by rw [upd_ne (hm b _ q fun z => z)]; exact q, fun b u xs q => by rw [upd_ne (hm b _ q fun z => z)]; exact q, fun b ps q => ⟨#[], by rw [upd_ne (hm b _ q fun z => z), q]; simp⟩⟩
  by_cases hbe : b = e
  · subst hbe; exact heo
  · exact ⟨u, k b u hbe q⟩
end
def trk (h : Heap) (H : Hp) : List Addr := (List.range h.objs.size).filter fun a => (H a).isSome
def hidT (h : Heap) (H : Hp) : Heap := PySem.W.hideAll h (trk h H)
theorem hidT_size (h : Heap) (H : Hp) : (hidT h H).objs.size = h.objs.size := PySem.W.hideAll_size _ _
theorem hidT_get {h : Heap} {H : Hp} {b : Addr} {o : Obj} (e : h.get? b = some o) (n : H b = none) : (hidT h H).get? b = some o :=
  PySem.W.hideAll_get _ e fun hm => by
    have q : (H b).isSome = true := (List.mem_filter.mp hm).2
    rw [n] at q; simp at q
theorem of_hidT {h : Heap} {H : Hp} {b : Addr} {o : Obj} (e : (hidT h H).get? b = some o) : h.get? b = some o ∧ H b = none := by
  have e' : h.get? b = some o := PySem.W.of_hideAll (trk h H) e
  refine ⟨e', ?_⟩
  cases q : H b with
  | none => rfl
  | some x =>
    have hm : b ∈ trk h H := List.mem_filter.mpr ⟨List.mem_range.mpr (Heap.lt_size e'), by simp [q]⟩
    have z : (hidT h H).get? b = none := PySem.W.hideAll_none (trk h H) hm
    rw [z] at e; cases e
end L2
namespace L2
open PySem PySem.Spec PyProof.Rows
structure Mod (K : PySem.W.Frag) (mg : Str → Option Value) (base : Heap) : Prop where
  kin : K.In base
  glob : base.Ns mainGlobals mg
  blt : ∃ mb, base.Ns builtinsNs mb ∧ ∀ x : Str, x ≠ "__name__" → mb x = bootBuiltins x
  nolimit : base.NoLimit
structure Cx where
  prog : Program
  w : World
  K : PySem.W.Frag
  mg : Str → Option Value
  base : Heap
  A : Around
  N : List Str
  s_0 : Shared
  H_0 : Hp
  env : Env
  outer : List Env
  stack : List Env
  ex : List Addr
  fn : Str → Bool
  calm : Bool
  pn : List (Addr × Obj)
  xe : Value → Shared → Prop
def frs (l : List Env) : List Addr := l.filterMap (·.frame)
abbrev Cx.fs (X : Cx) : List Addr := frs X.outer
def Vis (sc : Scope) (x : Str) : Prop := sc.names.lookup x = some .local ∨ sc.names.lookup x = some .cell ∨ sc.names.lookup x = some .free
def Loc (sc : Scope) (x : Str) : Prop := sc.names.lookup x = some .local ∨ sc.names.lookup x = some .cell
def Look (env : Env) (h : Heap) (m : Str → Option Value) (x : Str) (u : Value) : Prop :=
  (env.kindOf x = some .local ∧ m x = some u) ∨ ((env.kindOf x = some .cell ∨ env.kindOf x = some .free) ∧ ∃ c, env.cells.lookup x = some c ∧ h.IsCell c (some u))
structure Cx.Ok (X : Cx) : Prop where
  mod : Mod X.K X.mg X.base
  kind : X.env.scope.kind = .function
  glob : X.env.globals = mainGlobals
  blt : X.env.builtins = builtinsNs
  above : X.s_0.heap.objs.size ≤ X.env.locals
  inj : ∀ x y c, X.env.cells.lookup x = some c → X.env.cells.lookup y = some c → x = y
  has : ∀ x, (X.env.kindOf x = some .cell ∨ X.env.kindOf x = some .free) → ∃ c, X.env.cells.lookup x = some c
  cab : ∀ x c, X.fn x = true → X.env.cells.lookup x = some c → X.s_0.heap.objs.size ≤ c
  hd : X.calm = true → X.A.handled = none
  frames : X.A.frames = some X.stack
  stk : X.stack = X.outer ∨ (X.stack = X.env :: X.outer ∧ X.env.frame = some X.env.locals)
  exf : ∀ b ∈ X.ex, b ≠ X.env.locals ∧ ∀ x c, X.env.cells.lookup x = some c → c ≠ b
  bs : ∀ b o, X.base.get? b = some o → X.s_0.heap.get? b = some o ∧ X.H_0 b = none
  bsz : X.base.objs.size ≤ X.s_0.heap.objs.size
  noex : ∀ b o, X.base.get? b = some o → b ∉ X.ex
  exfs : ∀ b ∈ X.ex, b ∉ X.fs
  funs : X.s_0.heap.FunFrames X.base X.outer
  frf : ∀ b ∈ X.fs, X.H_0 b = none
structure Inv (X : Cx) (pins : List (Addr × Obj)) (σ : List (Option V)) (H : Hp) (s : Shared) : Prop where
  ok : X.Ok
  os : s.os = X.s_0.os
  bare : AllBare s.gens
  base : Un X.fs X.ex X.H_0 H X.s_0.heap s.heap
  loc : ∃ m, s.heap.Ns X.env.locals m ∧ ∀ (i : Nat) (x : Str) (v : V), X.N[i]? = some x → σ[i]? = some (some v) → Vis X.env.scope x → ∃ u, RelV v u ∧ Look X.env s.heap m x u
  cell : ∀ x c, X.env.cells.lookup x = some c → ∃ v, s.heap.IsCell c v
  free : H X.env.locals = none
  freeC : ∀ x c, X.env.cells.lookup x = some c → H c = none
  pin : ∀ p ∈ X.pn ++ pins, s.heap.get? p.1 = some p.2 ∧ H p.1 = none ∧ p.1 ≠ X.env.locals ∧ p.1 ∉ X.fs ∧ ∀ v, p.2.data ≠ .cell v
  hok : HOk X.prog X.w H s.heap
  len : σ.length = X.N.length
section
variable {X : Cx} {pins : List (Addr × Obj)} {σ : List (Option V)} {H H' : Hp} {s : Shared} {h' : Heap}
theorem Cx.Ok.nofr (ok : X.Ok) {b : Addr} {o : Obj} (e : X.base.get? b = some o) : b ∉ X.fs := fun hb => by
  have := (ok.funs.mem hb).1
  rw [e] at this; cases this
theorem Inv.bs (I : Inv X pins σ H s) : ∀ b o, X.base.get? b = some o → s.heap.get? b = some o ∧ H b = none := fun b o e =>
  ⟨I.base.keep b o (I.ok.bs b o e).1 (I.ok.bs b o e).2 (I.ok.nofr e) (I.ok.noex b o e), I.base.free b o (I.ok.bs b o e).1 (I.ok.bs b o e).2 (I.ok.noex b o e)⟩
theorem Inv.bk (I : Inv X pins σ H s) : ∀ b o, X.base.get? b = some o → s.heap.get? b = some o := fun b o e => (I.bs b o e).1
theorem Inv.mod (I : Inv X pins σ H s) : Mod X.K X.mg X.base := I.ok.mod
theorem Inv.kIn (I : Inv X pins σ H s) : X.K.In s.heap := I.ok.mod.kin.keeps I.bk
theorem Inv.lt (I : Inv X pins σ H s) : X.env.locals < s.heap.objs.size := let ⟨_, hn, _⟩ := I.loc; hn.lt
theorem Inv.sz (I : Inv X pins σ H s) : X.s_0.heap.objs.size ≤ s.heap.objs.size := Nat.le_trans I.ok.above (Nat.le_of_lt I.lt)
theorem Inv.nofs (I : Inv X pins σ H s) {a : Addr} (h : s.heap.objs.size ≤ a) : a ∉ X.fs := fun hb => by
  obtain ⟨_, o, ho, _⟩ := I.ok.funs.mem hb
  exact absurd (Nat.lt_of_lt_of_le (Heap.lt_size ho) (Nat.le_trans I.sz h)) (Nat.lt_irrefl _)
theorem Inv.cne (I : Inv X pins σ H s) : ∀ x c, X.env.cells.lookup x = some c → c ≠ X.env.locals := fun x c e z => by
  obtain ⟨v, o, ho, hd⟩ := I.cell x c e
  obtain ⟨m, ⟨o', es, ep, ho', hd', _⟩, _⟩ := I.loc
  rw [z, ho'] at ho; cases ho; rw [hd'] at hd; cases hd
theorem Inv.funs (I : Inv X pins σ H s) : s.heap.FunFrames X.base X.outer := by
  have all : ∀ (l : List Env), (∀ b ∈ frs l, b ∈ X.fs) → X.s_0.heap.FunFrames X.base l → s.heap.FunFrames X.base l := by
    intro l
    induction l with
    | nil => intro _ _; trivial
    | cons env r ih =>
      intro hs hl
      obtain ⟨hk, ⟨L, o, hf, hn, ho, hd⟩, hr⟩ := hl
      have hL : L ∈ X.fs := hs L (by unfold frs; rw [List.filterMap_cons, hf]; exact List.mem_cons_self)
      obtain ⟨sl, e⟩ := I.base.slot L o ho (I.ok.frf L hL) hL fun z => I.ok.exfs L z hL
      exact ⟨hk, ⟨L, _, hf, hn, e, hd⟩, ih (fun b hb => hs b (by unfold frs; rw [List.filterMap_cons, hf]; exact List.mem_cons_of_mem _ hb)) hr⟩
  exact all X.outer (fun _ hb => hb) I.ok.funs
theorem Inv.stack (I : Inv X pins σ H s) : s.heap.FunFrames X.base X.stack := by
  rcases I.ok.stk with e | ⟨e, hf⟩
  · rw [e]; exact I.funs
  · rw [e]
    obtain ⟨m, hn, _⟩ := I.loc
    refine .cons (by rw [I.ok.kind]; decide) hf hn ?_ I.funs
    exact Heap.get?_none_of_le (Nat.le_trans I.ok.bsz I.ok.above)
theorem Inv.stkSub (I : Inv X pins σ H s) : ∀ b ∈ frs X.stack, b ∈ X.env.locals :: X.fs := fun b hb => by
  rcases I.ok.stk with e | ⟨e, hf⟩
  · rw [e] at hb; exact List.mem_cons_of_mem _ hb
  · rw [e] at hb
    unfold frs at hb
    rw [List.filterMap_cons, hf] at hb
    exact hb
theorem Inv.stkFree (I : Inv X pins σ H s) : ∀ b ∈ frs X.stack, H b = none := fun b hb => by
  rcases List.mem_cons.mp (I.stkSub b hb) with e | hb
  · rw [e]; exact I.free
  · obtain ⟨_, o, ho, _⟩ := I.ok.funs.mem hb
    exact I.base.free b o ho (I.ok.frf b hb) fun z => I.ok.exfs b z hb
theorem Inv.step {g' : Array GenState} {t' : Nat} {d' : Drawn} {ch : List Addr} (I : Inv X pins σ H s)
    (hch : ∀ b ∈ ch, (b ∈ X.ex ∨ X.s_0.heap.objs.size ≤ b) ∧ b ≠ X.env.locals ∧ (∀ x c, X.env.cells.lookup x = some c → c ≠ b) ∧ ∀ p ∈ X.pn ++ pins, p.1 ≠ b)
    (keep : ∀ b o, b ≠ X.env.locals → b ∉ X.fs → b ∉ ch → s.heap.get? b = some o → H b = none → h'.get? b = some o)
    (slot : ∀ b o, b ≠ X.env.locals → b ∈ X.fs → b ∉ ch → s.heap.get? b = some o → H b = none → ∃ sl, h'.get? b = some { o with slots := sl }) (free : ∀ b o, b ∉ ch → s.heap.get? b = some o → H b = none → H' b = none)
    (there : ∀ b o, b ∉ ch → s.heap.get? b = some o → ∃ o', h'.get? b = some o')
    (tups : ∀ b xs, H b = some (.tup xs) → H' b = some (.tup xs)) (frzs : ∀ b o u, H b = some (.frz o u) → H' b = some (.frz o u)) (tbls : ∀ b ps, H b = some (.tbl ps) → ∃ more, H' b = some (.tbl (ps ++ more)))
    (ns : ∀ m, s.heap.Ns X.env.locals m → h'.Ns X.env.locals m) (hok : HOk X.prog X.w H' h') (hg : AllBare g') :
    Inv X pins σ H' { s with heap := h', gens := g', drawn := d', toks := t' } := by
  have neL : ∀ b o, X.s_0.heap.get? b = some o → b ≠ X.env.locals := fun b o e => Nat.ne_of_lt (Nat.lt_of_lt_of_le (Heap.lt_size e) I.ok.above)
  have neC : ∀ b o, X.s_0.heap.get? b = some o → b ∉ X.ex → b ∉ ch := fun b o e hx hb => by
    rcases (hch b hb).1 with z | z
    · exact hx z
    · exact absurd (Nat.lt_of_lt_of_le (Heap.lt_size e) z) (Nat.lt_irrefl _)
  have cellK : ∀ x c, X.env.cells.lookup x = some c → ∀ v, s.heap.IsCell c v → h'.IsCell c v := fun x c e v ⟨o, ho, hd⟩ => by
    have nch : c ∉ ch := fun z => (hch c z).2.2.1 x c e rfl
    by_cases hc : c ∈ X.fs
    · obtain ⟨sl, q⟩ := slot c o (I.cne x c e) hc nch ho (I.freeC x c e)
      exact ⟨_, q, hd⟩
    · exact ⟨o, keep c o (I.cne x c e) hc nch ho (I.freeC x c e), hd⟩
  refine ⟨I.ok, I.os, hg, ⟨fun b o e n hb hx => ?_, fun b o e n hb hx => ?_, fun b o e n hx => ?_, fun b o e hx => ?_, fun b xs e => tups b xs (I.base.tups b xs e), fun b o xs e => frzs b o xs (I.base.frzs b o xs e), fun b ps e => ?_⟩, ?_, fun x c e => ?_, ?_, fun x c e => ?_, fun p hp => ?_, hok, I.len⟩
  · exact keep b o (neL b o e) hb (neC b o e hx) (I.base.keep b o e n hb hx) (I.base.free b o e n hx)
  · obtain ⟨sl, e1⟩ := I.base.slot b o e n hb hx
    obtain ⟨sl', e2⟩ := slot b _ (neL b o e) hb (neC b o e hx) e1 (I.base.free b o e n hx)
    exact ⟨sl', e2⟩
  · obtain ⟨o', e1⟩ := I.base.there b o e hx
    exact free b o' (neC b o e hx) e1 (I.base.free b o e n hx)
  · obtain ⟨o', e1⟩ := I.base.there b o e hx
    exact there b o' (neC b o e hx) e1
  · obtain ⟨m1, e1⟩ := I.base.tbls b ps e
    obtain ⟨m2, e2⟩ := tbls b _ e1
    exact ⟨m1 ++ m2, by rw [e2, Array.append_assoc]⟩
  · obtain ⟨m, hn, hl⟩ := I.loc
    refine ⟨m, ns m hn, fun i x v e1 e2 e3 => ?_⟩
    obtain ⟨u, r, l⟩ := hl i x v e1 e2 e3
    refine ⟨u, r, ?_⟩
    rcases l with l | ⟨k, c, e, z⟩
    · exact .inl l
    · exact .inr ⟨k, c, e, cellK x c e _ z⟩
  · obtain ⟨v, z⟩ := I.cell x c e
    exact ⟨v, cellK x c e v z⟩
  · obtain ⟨m, ⟨o, _, _, ho, _⟩, _⟩ := I.loc
    exact free _ o (fun z => (hch _ z).2.1 rfl) ho I.free
  · obtain ⟨v, o, ho, hd⟩ := I.cell x c e
    exact free c o (fun z => (hch c z).2.2.1 x c e rfl) ho (I.freeC x c e)
  · obtain ⟨e, n, ne, nf, d⟩ := I.pin p hp
    have nch : p.1 ∉ ch := fun z => (hch p.1 z).2.2.2 p hp rfl
    exact ⟨keep p.1 p.2 ne nf nch e n, free p.1 p.2 nch e n, ne, nf, d⟩
theorem Inv.un {t' : Nat} (I : Inv X pins σ H s) (u : Un X.fs [] H H' s.heap h') (hok : HOk X.prog X.w H' h') : Inv X pins σ H' { s with heap := h', toks := t' } := by
  obtain ⟨m, ⟨o, es, ep, ho, r⟩, _⟩ := id I.loc
  obtain ⟨sl, hL⟩ := u.any ho I.free (by simp)
  exact I.step (g' := s.gens) (d' := s.drawn) (ch := []) (fun _ z => nomatch z) (fun b o _ hb _ e n => u.keep b o e n hb (by simp)) (fun b o _ hb _ e n => u.slot b o e n hb (by simp)) (fun b o _ e n => u.free b o e n (by simp)) (fun b o _ e => u.there b o e (by simp)) u.tups u.frzs u.tbls (fun m' hm => by
    obtain ⟨o', es', ep', ho', r'⟩ := hm
    rw [ho] at ho'; cases ho'
    exact ⟨_, es', ep', hL, r'⟩) hok I.bare
theorem Inv.call {g' : Array GenState} {t' : Nat} {d' : Drawn} {ch : List Addr} (I : Inv X pins σ H s) (u : Un (frs X.stack) ch H H' s.heap h') (hok : HOk X.prog X.w H' h') (hg : AllBare g')
    (hch : ∀ b ∈ ch, (b ∈ X.ex ∨ X.s_0.heap.objs.size ≤ b) ∧ b ≠ X.env.locals ∧ (∀ x c, X.env.cells.lookup x = some c → c ≠ b) ∧ ∀ p ∈ X.pn ++ pins, p.1 ≠ b) :
    Inv X pins σ H' { s with heap := h', gens := g', drawn := d', toks := t' } := by
  obtain ⟨m, ⟨o, es, ep, ho, r⟩, _⟩ := id I.loc
  obtain ⟨sl, hL⟩ := u.any ho I.free fun z => (hch _ z).2.1 rfl
  exact I.step (ch := ch) hch (fun b o hL hb hc e n => u.keep b o e n (fun z => (List.mem_cons.mp (I.stkSub b z)).elim hL hb) hc) (fun b o _ _ hc e n => u.any e n hc) (fun b o hc e n => u.free b o e n hc) (fun b o hc e => u.there b o e hc) u.tups u.frzs u.tbls (fun m' hm => by
    obtain ⟨o', es', ep', ho', r'⟩ := hm
    rw [ho] at ho'; cases ho'
    exact ⟨_, es', ep', hL, r'⟩) hok hg
theorem Inv.turned {t' : Nat} {it : Addr} (I : Inv X pins σ H s) (k : ∀ b o, b ≠ it → s.heap.get? b = some o → h'.get? b = some o) (hn : H it = none) (hL : it ≠ X.env.locals)
    (h1 : it ∈ X.ex ∨ X.s_0.heap.objs.size ≤ it) (h2 : ∀ x c, X.env.cells.lookup x = some c → c ≠ it) (h3 : ∀ p ∈ X.pn ++ pins, p.1 ≠ it) : Inv X pins σ H { s with heap := h', toks := t' } := by
  have nit : ∀ b u, H b = some u → b ≠ it := fun b u e z => by rw [z, hn] at e; cases e
  refine I.step (g' := s.gens) (d' := s.drawn) (ch := [it]) (fun b hb => ?_) (fun b o _ _ hc e _ => k b o (fun z => hc (by simp [z])) e) (fun b o _ _ hc e _ => ⟨o.slots, k b o (fun z => hc (by simp [z])) e⟩) (fun _ _ _ _ n => n)
    (fun b o hc e => ⟨o, k b o (fun z => hc (by simp [z])) e⟩) (fun _ _ e => e) (fun _ _ _ e => e) (fun b ps e => ⟨#[], by rw [e]; simp⟩) (fun m hm => ?_) (fun b u e => ?_) I.bare
  · have e : b = it := by simpa using hb
    subst e
    exact ⟨h1, hL, h2, h3⟩
  · obtain ⟨o, es, ep, ho, r⟩ := hm
    exact ⟨o, es, ep, k _ o (Ne.symm hL) ho, r⟩
  · refine (I.hok b u e).stay (fun c v hc q => k c v ?_ q) (fun _ q => q) fun _ _ q => q
    rcases hc with z | z
    · rw [z]; exact nit b u e
    · exact nit c _ z
theorem Inv.tok (I : Inv X pins σ H s) (t : Nat) : Inv X pins σ H { s with toks := t } := I.un (h' := s.heap) (t' := t) Un.refl I.hok
theorem Inv.kept {t' : Nat} (I : Inv X pins σ H s) (k : ∀ b u, s.heap.get? b = some u → h'.get? b = some u) : Inv X pins σ H { s with heap := h', toks := t' } := I.un (Un.kept k) (I.hok.kept k)
theorem Inv.laid {a : Addr} {o : HO} {t' : Nat} (I : Inv X pins σ H s) (k : ∀ b u, s.heap.get? b = some u → h'.get? b = some u) (hp : s.heap.objs.size ≤ a) (new : ObjOk X.prog X.w (upd H a o) h' a o) :
    Inv X pins σ (upd H a o) { s with heap := h', toks := t' } := I.un (Un.laid k hp (I.hok.fresh hp)) (I.hok.laid k hp new)
theorem Inv.write {x e : Addr} {o : HO} {t' : Nat} (I : Inv X pins σ H s) (mu : Mut (H x)) (he : e = x ∨ H e = some (.own x)) (k : ∀ b u, b ≠ e → s.heap.get? b = some u → h'.get? b = some u) (heo : ∃ u, h'.get? e = some u)
    (new : ObjOk X.prog X.w (upd H x o) h' x o) : Inv X pins σ (upd H x o) { s with heap := h', toks := t' } := I.un (Un.write mu he k heo) (I.hok.write mu he k heo new)
theorem Inv.weak {σ' : List (Option V)} (I : Inv X pins σ H s) (hl : σ'.length = σ.length) (w : ∀ (i : Nat) v, σ'[i]? = some (some v) → σ[i]? = some (some v)) : Inv X pins σ' H s :=
  ⟨I.ok, I.os, I.bare, I.base, let ⟨m, hn, hl'⟩ := I.loc; ⟨m, hn, fun i x v e1 e2 e3 => hl' i x v e1 (w i v e2) e3⟩, I.cell, I.free, I.freeC, I.pin, I.hok, hl.trans I.len⟩
theorem Inv.pins_of {pins' : List (Addr × Obj)} (I : Inv X pins σ H s) (h : ∀ p ∈ pins', s.heap.get? p.1 = some p.2 ∧ H p.1 = none ∧ p.1 ≠ X.env.locals ∧ p.1 ∉ X.fs ∧ ∀ v, p.2.data ≠ .cell v) : Inv X pins' σ H s :=
  ⟨I.ok, I.os, I.bare, I.base, I.loc, I.cell, I.free, I.freeC, fun p hp => (List.mem_append.mp hp).elim (fun z => I.pin p (List.mem_append_left _ z)) (h p), I.hok, I.len⟩
theorem nodup_ix {N : List Str} (hN : N.Nodup) {i j : Nat} {x : Str} (a : N[i]? = some x) (b : N[j]? = some x) : i = j := by
  obtain ⟨h1, e1⟩ := List.getElem?_eq_some_iff.mp a
  obtain ⟨h2, e2⟩ := List.getElem?_eq_some_iff.mp b
  exact (List.getElem_inj hN).mp (e1.trans e2.symm)
theorem store_ok2 {M : Model} {A : Around} {E : Value → Shared → Prop} {i : Nat} {x : Str} {v : V} {u : Value} {Q : Unit → Shared → Prop} (I : Inv X pins σ H s) (hN : X.N.Nodup) (hi : X.N[i]? = some x) (hx : Loc X.env.scope x) (r : RelV v u)
    (h : ∀ s', Inv X pins (σ.set i (some v)) H s' → (∃ a, Heap.SameBut a s.heap s'.heap ∧ (a = X.env.locals ∨ X.env.cells.lookup x = some a)) → Q () s') (hf : X.fn x = true ∨ X.env.scope.names.lookup x = some .local := by first | exact .inl rfl | exact .inr rfl | assumption) : wpAny M A (storeName X.env x u) Q E s := by
  obtain ⟨m, hn, hl⟩ := id I.loc
  have hcls : (X.env.scope.kind == .class || (X.env.scope.kind == .module && X.env.locals != X.env.globals)) = false := by rw [I.ok.kind]; rfl
  have hiσ : i < σ.length := by rw [I.len]; exact (List.getElem?_eq_some_iff.mp hi).1
  have cne := I.cne
  have tracked : ∀ {a : Addr} {h' : Heap}, (∃ o, s.heap.get? a = some o ∧ H a = none) → Heap.SameBut a s.heap h' → HOk X.prog X.w H h' := fun {a h'} ha hs b ob e => by
    obtain ⟨_, _, hfree⟩ := ha
    refine (I.hok b ob e).stay (fun c w' hc q => (hs.2 c ?_).trans q) (fun _ q => q) fun _ _ q => q
    rintro rfl
    rcases hc with rfl | hc
    · rw [hfree] at e; cases e
    · rw [hfree] at hc; cases hc
  rcases hx with hk | hk
  · refine wpAny_storeName_local hk hn (fun h' hn' hs => ?_) hcls
    obtain ⟨oL, _, _, hoL, _⟩ := id hn
    refine h _ ⟨I.ok, I.os, I.bare, ⟨fun b o e n hb hx => ?_, fun b o e n hb hx => ?_, I.base.free, fun b o e hx => ?_, I.base.tups, I.base.frzs, I.base.tbls⟩, ⟨_, hn', fun j y v' e1 e2 e3 => ?_⟩, fun y c e => ?_, I.free, I.freeC, fun p hp => ?_, tracked ⟨oL, hoL, I.free⟩ hs, by simpa using I.len⟩ ⟨_, hs, .inl rfl⟩
    · exact (hs.2 b (Nat.ne_of_lt (Nat.lt_of_lt_of_le (Heap.lt_size e) I.ok.above))).trans (I.base.keep b o e n hb hx)
    · obtain ⟨sl, e1⟩ := I.base.slot b o e n hb hx
      exact ⟨sl, (hs.2 b (Nat.ne_of_lt (Nat.lt_of_lt_of_le (Heap.lt_size e) I.ok.above))).trans e1⟩
    · obtain ⟨o', e1⟩ := I.base.there b o e hx
      exact ⟨o', (hs.2 b (Nat.ne_of_lt (Nat.lt_of_lt_of_le (Heap.lt_size e) I.ok.above))).trans e1⟩
    · by_cases hj : j = i
      · subst hj
        rw [hi] at e1; cases e1
        rw [List.getElem?_set_self hiσ] at e2
        cases e2
        exact ⟨u, r, .inl ⟨hk, by simp⟩⟩
      · rw [List.getElem?_set_ne (Ne.symm hj)] at e2
        obtain ⟨u', r', q⟩ := hl j y v' e1 e2 e3
        refine ⟨u', r', ?_⟩
        rcases q with ⟨k, e⟩ | ⟨k, c, e, z⟩
        · refine .inl ⟨k, ?_⟩
          have : y ≠ x := fun e => hj (nodup_ix hN e1 (e ▸ hi))
          simp [this, e]
        · exact .inr ⟨k, c, e, z.sameBut hs (cne y c e)⟩
    · obtain ⟨w', z⟩ := I.cell y c e
      exact ⟨w', z.sameBut hs (cne y c e)⟩
    · obtain ⟨e, n, ne, nf, d⟩ := I.pin p hp
      exact ⟨(hs.2 p.1 ne).trans e, n, ne, nf, d⟩
  · have hfn : X.fn x = true := by
      rcases hf with z | z
      · exact z
      · rw [z] at hk; cases hk
    obtain ⟨c, hc⟩ := I.ok.has x (.inl hk)
    obtain ⟨w', z⟩ := I.cell x c hc
    refine wpAny_storeName_cell I.ok.kind hk hc z (fun h' hc' hs => ?_)
    obtain ⟨oc, hoc, hocd⟩ := id z
    refine h { s with heap := h' } ⟨I.ok, I.os, I.bare, ⟨fun b o e n hb hx => ?_, fun b o e n hb hx => ?_, I.base.free, fun b o e hx => ?_, I.base.tups, I.base.frzs, I.base.tbls⟩, ⟨m, hn.sameBut hs (Ne.symm (cne x c hc)), fun j y v' e1 e2 e3 => ?_⟩, fun y c' e => ?_, I.free, I.freeC, fun p hp => ?_, tracked ⟨oc, hoc, I.freeC x c hc⟩ hs, by simpa using I.len⟩ ⟨c, hs, .inr hc⟩
    · exact (hs.2 b (Nat.ne_of_lt (Nat.lt_of_lt_of_le (Heap.lt_size e) (I.ok.cab x c hfn hc)))).trans (I.base.keep b o e n hb hx)
    · obtain ⟨sl, e1⟩ := I.base.slot b o e n hb hx
      exact ⟨sl, (hs.2 b (Nat.ne_of_lt (Nat.lt_of_lt_of_le (Heap.lt_size e) (I.ok.cab x c hfn hc)))).trans e1⟩
    · obtain ⟨o', e1⟩ := I.base.there b o e hx
      exact ⟨o', (hs.2 b (Nat.ne_of_lt (Nat.lt_of_lt_of_le (Heap.lt_size e) (I.ok.cab x c hfn hc)))).trans e1⟩
    · by_cases hj : j = i
      · subst hj
        rw [hi] at e1; cases e1
        rw [List.getElem?_set_self hiσ] at e2
        cases e2
        exact ⟨u, r, .inr ⟨.inl hk, c, hc, hc'⟩⟩
      · rw [List.getElem?_set_ne (Ne.symm hj)] at e2
        obtain ⟨u', r', q⟩ := hl j y v' e1 e2 e3
        refine ⟨u', r', ?_⟩
        rcases q with q | ⟨k, c', e, z'⟩
        · exact .inl q
        · refine .inr ⟨k, c', e, z'.sameBut hs ?_⟩
          rintro rfl
          exact hj (nodup_ix hN e1 (I.ok.inj _ _ _ e hc ▸ hi))
    · by_cases hcc : c' = c
      · subst hcc; exact ⟨_, hc'⟩
      · obtain ⟨w2, z2⟩ := I.cell y c' e
        exact ⟨w2, z2.sameBut hs hcc⟩
    · obtain ⟨e, n, ne, nf, d⟩ := I.pin p hp
      refine ⟨(hs.2 p.1 ?_).trans e, n, ne, nf, d⟩
      intro q
      rw [q, hoc] at e
      have q' : oc = p.2 := Option.some.inj e
      exact d w' (by rw [← q']; exact hocd)
theorem store_ok {M : Model} {A : Around} {E : Value → Shared → Prop} {i : Nat} {x : Str} {v : V} {u : Value} {Q : Unit → Shared → Prop} (I : Inv X pins σ H s) (hN : X.N.Nodup) (hi : X.N[i]? = some x) (hx : Loc X.env.scope x) (r : RelV v u)
    (h : ∀ s', Inv X pins (σ.set i (some v)) H s' → Q () s') (hf : X.fn x = true ∨ X.env.scope.names.lookup x = some .local := by first | exact .inl rfl | exact .inr rfl | assumption) : wpAny M A (storeName X.env x u) Q E s :=
  store_ok2 I hN hi hx r (fun s' I' _ => h s' I') hf
theorem Inv.call' {s' : Shared} {ch : List Addr} (I : Inv X pins σ H s) (ho : s'.os = s.os) (u : Un (frs X.stack) ch H H' s.heap s'.heap) (hok : HOk X.prog X.w H' s'.heap) (hg : AllBare s'.gens)
    (hch : ∀ b ∈ ch, (b ∈ X.ex ∨ X.s_0.heap.objs.size ≤ b) ∧ b ≠ X.env.locals ∧ (∀ x c, X.env.cells.lookup x = some c → c ≠ b) ∧ ∀ p ∈ X.pn ++ pins, p.1 ≠ b) : Inv X pins σ H' s' := by
  obtain ⟨h', g', d', t', o'⟩ := s'
  have e : o' = s.os := ho
  subst e
  exact I.call (g' := g') (t' := t') (d' := d') u hok hg hch
end
abbrev XK := Value → Option Addr → Hp → Prop
abbrev St := List (Option V)
abbrev VK := V → Hp → Prop
abbrev TE := St → Hp → VK → Prop
abbrev TT := St → Hp → (Bool → Hp → Prop) → Prop
abbrev TA := St → Hp → (List V → Hp → Prop) → Prop
structure Ends where
  nx : St → Hp → Prop
  rt : VK
  bk : St → Hp → Prop := fun _ _ => False
  ct : St → Hp → Prop := fun _ _ => False
abbrev TS := Ends → St → Hp → Prop
def EP (X : Cx) (pins : List (Addr × Obj)) (σ : St) (Q : VK) (u : Value) (s' : Shared) : Prop := ∃ v H', Inv X pins σ H' s' ∧ RelV v u ∧ Q v H'
def TP (X : Cx) (pins : List (Addr × Obj)) (σ : St) (Q : Bool → Hp → Prop) (b : Bool) (s' : Shared) : Prop := ∃ H', Inv X pins σ H' s' ∧ Q b H'
def AP (X : Cx) (pins : List (Addr × Obj)) (σ : St) (Q : List V → Hp → Prop) (us : List Value) (s' : Shared) : Prop := ∃ vs H', Inv X pins σ H' s' ∧ Vals vs us ∧ Q vs H'
def SP (X : Cx) (pins : List (Addr × Obj)) (D : Ends) (f : Flow) (s' : Shared) : Prop :=
  match f with
  | .next => ∃ σ' H', Inv X pins σ' H' s' ∧ D.nx σ' H'
  | .brk => ∃ σ' H', Inv X pins σ' H' s' ∧ D.bk σ' H'
  | .cont => ∃ σ' H', Inv X pins σ' H' s' ∧ D.ct σ' H'
  | .ret u => ∃ v σ' H', Inv X pins σ' H' s' ∧ RelV v u ∧ D.rt v H'
def PE (X : Cx) (e : Expr) (t : TE) : Prop :=
  ∀ (pins : List (Addr × Obj)) (s : Shared) (σ : St) (H : Hp) (Q : VK), Inv X pins σ H s → t σ H Q → wpAny (model X.prog X.w) X.A (eval e X.env) (EP X pins σ Q) X.xe s
def PT (X : Cx) (e : Expr) (t : TT) : Prop :=
  ∀ (pins : List (Addr × Obj)) (s : Shared) (σ : St) (H : Hp) (Q : Bool → Hp → Prop), Inv X pins σ H s → t σ H Q → wpAny (model X.prog X.w) X.A (isTrue e X.env (eval e X.env)) (TP X pins σ Q) X.xe s
def PW (X : Cx) (e : Expr) (t : TT) : Prop :=
  ∀ (whole : Sem Value) (pins : List (Addr × Obj)) (s : Shared) (σ : St) (H : Hp) (Q : Bool → Hp → Prop), Inv X pins σ H s → t σ H Q → wpAny (model X.prog X.w) X.A (isTrue e X.env whole) (TP X pins σ Q) X.xe s
theorem PW.pt {X : Cx} {e : Expr} {t : TT} (h : PW X e t) : PT X e t := h _
def PA (X : Cx) (es : List Expr) (t : TA) : Prop :=
  ∀ (pos : Pos) (pins : List (Addr × Obj)) (s : Shared) (σ : St) (H : Hp) (Q : List V → Hp → Prop), Inv X pins σ H s → t σ H Q → wpAny (model X.prog X.w) X.A (spliced (backTo pos (starEach es X.env))) (AP X pins σ Q) X.xe s
def PS (X : Cx) (st : Stmt) (t : TS) : Prop :=
  ∀ (pins : List (Addr × Obj)) (s : Shared) (σ : St) (H : Hp) (D : Ends), Inv X pins σ H s → t D σ H → wpAny (model X.prog X.w) X.A (exec st X.env) (SP X pins D) X.xe s
def PSs (X : Cx) (st : List Stmt) (t : TS) : Prop :=
  ∀ (pins : List (Addr × Obj)) (s : Shared) (σ : St) (H : Hp) (D : Ends), Inv X pins σ H s → t D σ H → wpAny (model X.prog X.w) X.A (execs st X.env) (SP X pins D) X.xe s
theorem thn {α : Type} {t : Sem α} {Q Q' : α → Shared → Prop} {M : Model} {A : Around} {E : Value → Shared → Prop} {s : Shared} (h : wpAny M A t Q E s) (hQ : ∀ a s, Q a s → Q' a s) : wpAny M A t Q' E s := wpAny_mono h hQ fun _ _ x => x
end L2
namespace L2
open PySem PySem.Spec PyProof.Rows
section
variable {X : Cx}
def tVar (i : Nat) : TE := fun σ H Q => ∃ v, σ[i]? = some (some v) ∧ Q v H
def tC (v : V) : TE := fun _ H Q => Q v H
theorem pe_var {i : Nat} {x : Str} {pos : Pos} (hN : X.N[i]? = some x) (hv : Vis X.env.scope x) (hd : (x == ("__debug__" : Str)) = false := by decide) (hcd : (x == ("__classdict__" : Str)) = false := by decide) : PE X (.Name x pos) (tVar i) := by
  intro pins s σ H Q I h
  obtain ⟨v, e, h⟩ := h
  obtain ⟨m, hn, hl⟩ := I.loc
  obtain ⟨u, r, l⟩ := hl i x v hN e hv
  have fin : EP X pins σ Q u s := ⟨v, H, I, r, h⟩
  rcases l with ⟨hk, hm⟩ | ⟨hk, c, hc, hcell⟩
  · exact wpAny_Name (wpAny_loadName_local I.ok.kind hk hn hm fin) hd
  · rcases hk with hk | hk
    · exact wpAny_Name (wpAny_loadName_cell I.ok.kind hk hc hcell fin) hd
    · exact wpAny_Name (wpAny_loadName_free I.ok.kind hk hc hcell fin hcd) hd
theorem pe_int {i j pos} : PE X (.Constant (.int i) j pos) (tC (.int i)) := fun _ _ _ H _ I h => wpAny_Constant_int ⟨.int i, H, I.tok _, ⟨_, rfl⟩, h⟩
theorem pe_bl {b j pos} : PE X (.Constant (.bool b) j pos) (tC (.bl b)) := fun _ _ _ H _ I h => Constant_bool ⟨.bl b, H, I, rfl, h⟩
theorem pe_non {j pos} : PE X (.Constant .none j pos) (tC .non) := fun _ _ _ H _ I h => Constant_none ⟨.non, H, I, rfl, h⟩
def Gl (X : Cx) (x : Str) : Prop := X.env.kindOf x = some .globalImplicit
theorem ld_glob {E : Value → Shared → Prop} {pins : List (Addr × Obj)} {s : Shared} {σ : St} {H : Hp} {x : Str} {u : Value} {pos : Pos} {Q : Value → Shared → Prop} (I : Inv X pins σ H s) (hg : Gl X x) (hm : X.mg x = some u) (h : Q u s)
    (hd : (x == ("__debug__" : Str)) = false := by decide) : wpAny (model X.prog X.w) X.A (eval (.Name x pos) X.env) Q E s :=
  Calls.Name_function_global I.ok.kind hg (Calls.loadGlobal_global (by rw [I.ok.glob]; exact I.mod.glob.keeps I.bk) hm h) hd
theorem ld_blt {E : Value → Shared → Prop} {pins : List (Addr × Obj)} {s : Shared} {σ : St} {H : Hp} {x : Str} {u : Value} {pos : Pos} {Q : Value → Shared → Prop} (I : Inv X pins σ H s) (hg : Gl X x) (hm : X.mg x = none) (hv : bootBuiltins x = some u) (h : Q u s)
    (hn : x ≠ "__name__" := by decide) (hd : (x == ("__debug__" : Str)) = false := by decide) : wpAny (model X.prog X.w) X.A (eval (.Name x pos) X.env) Q E s := by
  obtain ⟨mb, h1, h2⟩ := I.mod.blt
  exact Calls.Name_function_global I.ok.kind hg (Calls.loadGlobal_builtin (by rw [I.ok.glob]; exact I.mod.glob.keeps I.bk) hm (by rw [I.ok.blt]; exact h1.keeps I.bk) ((h2 x hn).trans hv) h) hd
theorem pe_glob {x : Str} {v : V} {u : Value} {pos : Pos} (hg : Gl X x) (hm : X.mg x = some u) (r : RelV v u) (hd : (x == ("__debug__" : Str)) = false := by decide) : PE X (.Name x pos) (tC v) :=
  fun _ _ _ H _ I h => ld_glob I hg hm ⟨v, H, I, r, h⟩ hd
variable {a b : Expr} {ta tb : TE} {pos : Pos}
def tB (t : TE) : TT := fun σ H Q => t σ H fun x H1 => ∃ c, x = .bl c ∧ Q c H1
theorem pt_val {e : Expr} {t : TE} (h : PE X e t) (he : ∀ whole, isTrue e X.env whole = (do let v ← whole; standAt e.pos; holding [v] (truthy v)) := by intro _; rfl) : PT X e (tB t) := by
  intro pins s σ H Q I hw
  refine isTrue_plain (thn (h pins s σ H _ I hw) fun v s1 ⟨x, H1, I1, r1, q1⟩ => ?_) (he _)
  obtain ⟨d, rfl, q⟩ := q1
  cases r1
  exact wpAny_truthy_bool ⟨H1, I1, q⟩
variable {tA tB' : TT} {rest : List Expr}
def tAnd (t u : TT) : TT := fun σ H Q => t σ H fun c H1 => if c = true then u σ H1 Q else Q false H1
def tOr (t u : TT) : TT := fun σ H Q => t σ H fun c H1 => if c = true then Q true H1 else u σ H1 Q
def tNot (t : TT) : TT := fun σ H Q => t σ H fun c H1 => Q (!c) H1
theorem pw_and1 (ha : PT X a tA) : PW X (.BoolOp .And [a] pos) tA := by
  intro wh pins s σ H Q I h
  refine isTrue_and (thn (ha pins s σ H Q I h) fun c s1 e => ?_)
  cases c with
  | true => exact isTrue_and_nil e
  | false => exact e
theorem pw_or1 (ha : PT X a tA) : PW X (.BoolOp .Or [a] pos) tA := by
  intro wh pins s σ H Q I h
  refine isTrue_or (thn (ha pins s σ H Q I h) fun c s1 e => ?_)
  cases c with
  | false => exact isTrue_or_nil e
  | true => exact e
theorem pw_and (ha : PT X a tA) (hb : PW X (.BoolOp .And (b :: rest) pos) tB') : PW X (.BoolOp .And (a :: b :: rest) pos) (tAnd tA tB') := by
  intro wh pins s σ H Q I h
  refine isTrue_and (thn (ha pins s σ H _ I h) fun c s1 ⟨H1, I1, q1⟩ => ?_)
  cases c with
  | true => exact hb wh pins s1 σ H1 Q I1 q1
  | false => exact ⟨H1, I1, q1⟩
theorem pw_or (ha : PT X a tA) (hb : PW X (.BoolOp .Or (b :: rest) pos) tB') : PW X (.BoolOp .Or (a :: b :: rest) pos) (tOr tA tB') := by
  intro wh pins s σ H Q I h
  refine isTrue_or (thn (ha pins s σ H _ I h) fun c s1 ⟨H1, I1, q1⟩ => ?_)
  cases c with
  | true => exact ⟨H1, I1, q1⟩
  | false => exact hb wh pins s1 σ H1 Q I1 q1
theorem pt_not (ha : PT X a tA) : PT X (.UnaryOp .Not a pos) (tNot tA) := by
  intro pins s σ H Q I h
  exact isTrue_not (ha pins s σ H (fun c H1 => Q (!c) H1) I h)
def tAndV (ta tb : TE) : TE := fun σ H Q => ta σ H fun x H1 => ∃ c, x = .bl c ∧ if c = true then tb σ H1 Q else Q (.bl false) H1
def tOrV (ta tb : TE) : TE := fun σ H Q => ta σ H fun x H1 => ∃ c, x = .bl c ∧ if c = true then Q (.bl true) H1 else tb σ H1 Q
theorem pe_one {op} {t : TE} (h : PE X a t) : PE X (.BoolOp op [a] pos) t := fun pins s σ H Q I hw => BoolOp_one (h pins s σ H Q I hw)
theorem pe_and (ha : PE X a ta) (hb : PE X (.BoolOp .And (b :: rest) pos) tb) : PE X (.BoolOp .And (a :: b :: rest) pos) (tAndV ta tb) := by
  intro pins s σ H Q I h
  refine BoolOp_and (thn (ha pins s σ H _ I h) fun v s1 ⟨x, H1, I1, r1, q1⟩ => ?_)
  obtain ⟨c, rfl, q1⟩ := q1
  cases r1
  refine wpAny_truthy_bool ?_
  cases c with
  | true => exact hb pins s1 σ H1 Q I1 q1
  | false => exact ⟨.bl false, H1, I1, rfl, q1⟩
theorem pe_or (ha : PE X a ta) (hb : PE X (.BoolOp .Or (b :: rest) pos) tb) : PE X (.BoolOp .Or (a :: b :: rest) pos) (tOrV ta tb) := by
  intro pins s σ H Q I h
  refine BoolOp_or (thn (ha pins s σ H _ I h) fun v s1 ⟨x, H1, I1, r1, q1⟩ => ?_)
  obtain ⟨c, rfl, q1⟩ := q1
  cases r1
  refine wpAny_truthy_bool ?_
  cases c with
  | false => exact hb pins s1 σ H1 Q I1 q1
  | true => exact ⟨.bl true, H1, I1, rfl, q1⟩
def tIf (t : TT) (ta tb : TE) : TE := fun σ H Q => t σ H fun c H1 => if c = true then ta σ H1 Q else tb σ H1 Q
theorem pe_ifExp {c : Expr} (hc : PT X c tA) (ha : PE X a ta) (hb : PE X b tb) : PE X (.IfExp c a b pos) (tIf tA ta tb) := by
  intro pins s σ H Q I h
  refine wpAny_IfExp (thn (hc pins s σ H _ I h) fun d s1 ⟨H1, I1, q1⟩ => ?_)
  cases d with
  | true => exact ha pins s1 σ H1 Q I1 q1
  | false => exact hb pins s1 σ H1 Q I1 q1
end
end L2
namespace L2
open PySem PySem.Spec PyProof.Rows
def SqL (K : PySem.W.Frag) (H : Hp) (a : Addr) (xs : List V) : Prop :=
  Rd H a (.lst xs) ∨
    ∃ (o : Obj) (its : Array Value) (n : Nat), K.lookup a = some o ∧ o.cls = .type "list" ∧ o.dict = none ∧ o.data = .seq its n ∧ its.size ≤ sizeLine ∧ Vals xs its.toList
def SqT (K : PySem.W.Frag) (H : Hp) (a : Addr) (xs : List V) : Prop :=
  Rd H a (.tup xs) ∨
    ∃ (o : Obj) (its : Array Value) (n : Nat), K.lookup a = some o ∧ o.cls = .type "tuple" ∧ o.data = .seq its n ∧ its.size ≤ sizeLine ∧ Vals xs its.toList
def absV : Value → Option V
  | .none => some .non
  | .bool b => some (.bl b)
  | .int i _ => some (.int i)
  | .str x _ => some (.str x)
  | .bytes b _ => some (.byt b)
  | .float b _ => some (.flt b)
  | .ref a => some (.ref a)
  | .type n => some (.ty n)
  | _ => none
theorem RelV.abs {x : V} {u : Value} (r : RelV x u) : absV u = some x := by
  cases x with
  | non => cases r; rfl
  | bl _ => cases r; rfl
  | int _ => obtain ⟨t, rfl⟩ := r; rfl
  | str _ => obtain ⟨t, rfl⟩ := r; rfl
  | byt _ => obtain ⟨t, rfl⟩ := r; rfl
  | flt _ => obtain ⟨t, rfl⟩ := r; rfl
  | ref _ => cases r; rfl
  | ty _ => cases r; rfl
theorem RelV.inj {x y : V} {u : Value} (r : RelV x u) (q : RelV y u) : x = y := Option.some.inj (r.abs.symm.trans q.abs)
theorem Vals.inj : ∀ {xs ys : List V} {us : List Value}, Vals xs us → Vals ys us → xs = ys
  | _, _, _, .nil, .nil => rfl
  | _, _, _, .cons r t, .cons r' t' => by rw [r.inj r', Vals.inj t t']
section
variable {X : Cx} {pins : List (Addr × Obj)} {σ : St} {H : Hp} {s : Shared} {a : Addr} {xs ys : List V}
theorem SqL.of {K : PySem.W.Frag} (h : H a = some (.lst xs)) : SqL K H a xs := .inl (.inl h)
theorem SqT.of {K : PySem.W.Frag} (h : H a = some (.tup xs)) : SqT K H a xs := .inl (.inl h)
theorem Inv.list (I : Inv X pins σ H s) (h : SqL X.K H a xs) : ∃ its : List Value, Vals xs its ∧ PlainL s.heap a its.toArray ∧ xs.length ≤ sizeLine := by
  rcases h with h | ⟨o, its, n, hk, hc, hd, hs, hz, r⟩
  · obtain ⟨z, its, n, r, e⟩ := h.ok I.hok
    exact ⟨its, r, ⟨_, n, e, rfl, rfl, rfl⟩, z⟩
  · refine ⟨its.toList, r, ⟨o, n, I.kIn a o hk, hc, hd, by simpa using hs⟩, ?_⟩
    have e := r.length
    simp only [Array.length_toList] at e
    trivial
theorem Inv.tuple (I : Inv X pins σ H s) (h : SqT X.K H a xs) : ∃ its : List Value, Vals xs its ∧ IsTup s.heap a its.toArray ∧ xs.length ≤ sizeLine := by
  rcases h with h | ⟨o, its, n, hk, hc, hs, hz, r⟩
  · obtain ⟨z, its, r, p⟩ := h.ok I.hok
    exact ⟨its, r, p, z⟩
  · refine ⟨its.toList, r, ⟨o, I.kIn a o hk, hc, n, by simpa using hs⟩, ?_⟩
    have e := r.length
    simp only [Array.length_toList] at e
    trivial
theorem Inv.list_inj (I : Inv X pins σ H s) (h : SqL X.K H a xs) (h' : SqL X.K H a ys) : xs = ys := by
  obtain ⟨its, r, ⟨o, n, e, _, _, d⟩, _⟩ := I.list h
  obtain ⟨its', r', ⟨o', n', e', _, _, d'⟩, _⟩ := I.list h'
  rw [e] at e'; cases e'
  rw [d] at d'
  injection d' with d1 _
  have : its = its' := by simpa using congrArg Array.toList d1
  subst this
  exact r.inj r'
theorem Inv.tuple_inj (I : Inv X pins σ H s) (h : SqT X.K H a xs) (h' : SqT X.K H a ys) : xs = ys := by
  obtain ⟨its, r, ⟨o, e, _, n, d⟩, _⟩ := I.tuple h
  obtain ⟨its', r', ⟨o', e', _, n', d'⟩, _⟩ := I.tuple h'
  rw [e] at e'; cases e'
  rw [d] at d'
  injection d' with d1 _
  have : its = its' := by simpa using congrArg Array.toList d1
  subst this
  exact r.inj r'
end
abbrev Cx.wish (X : Cx) (E : Value → Shared → Prop) : Cx := { X with xe := E }
abbrev Cx.nox (X : Cx) : Cx := X.wish fun _ _ => False
theorem Cx.Ok.wish {X : Cx} (ok : X.Ok) (E : Value → Shared → Prop) : (X.wish E).Ok :=
  ⟨ok.mod, ok.kind, ok.glob, ok.blt, ok.above, ok.inj, ok.has, ok.cab, ok.hd, ok.frames, ok.stk, ok.exf, ok.bs, ok.bsz, ok.noex, ok.exfs, ok.funs, ok.frf⟩
theorem Cx.Ok.unwish {X : Cx} {E : Value → Shared → Prop} (ok : (X.wish E).Ok) : X.Ok :=
  ⟨ok.mod, ok.kind, ok.glob, ok.blt, ok.above, ok.inj, ok.has, ok.cab, ok.hd, ok.frames, ok.stk, ok.exf, ok.bs, ok.bsz, ok.noex, ok.exfs, ok.funs, ok.frf⟩
section
variable {X : Cx} {pins : List (Addr × Obj)} {σ : St} {H : Hp} {s : Shared} {E : Value → Shared → Prop}
theorem Inv.wish (I : Inv X pins σ H s) (E : Value → Shared → Prop) : Inv (X.wish E) pins σ H s := ⟨I.ok.wish E, I.os, I.bare, I.base, I.loc, I.cell, I.free, I.freeC, I.pin, I.hok, I.len⟩
theorem Inv.unwish (I : Inv (X.wish E) pins σ H s) : Inv X pins σ H s := ⟨I.ok.unwish, I.os, I.bare, I.base, I.loc, I.cell, I.free, I.freeC, I.pin, I.hok, I.len⟩
theorem SP.unwish {D : Ends} {f : Flow} {s' : Shared} (h : SP (X.wish E) pins D f s') : SP X pins D f s' := by
  cases f with
  | next => obtain ⟨σ', H', I, q⟩ := h; exact ⟨σ', H', I.unwish, q⟩
  | brk => obtain ⟨σ', H', I, q⟩ := h; exact ⟨σ', H', I.unwish, q⟩
  | cont => obtain ⟨σ', H', I, q⟩ := h; exact ⟨σ', H', I.unwish, q⟩
  | ret u => obtain ⟨v, σ', H', I, r, q⟩ := h; exact ⟨v, σ', H', I.unwish, r, q⟩
theorem PSs.nox {st : List Stmt} {t : TS} (h : PSs X.nox st t) : PSs X st t := fun pins s σ H D I hw =>
  wpAny_mono (h pins s σ H D (I.wish _) hw) (fun _ _ q => q.unwish) fun _ _ z => False.elim z
end
section
variable {X : Cx} {st : Stmt} {rest : List Stmt} {t u : TS} {e : Expr} {te : TE} {pos : Pos}
def tNext : TS := fun D σ H => D.nx σ H
def tSeq (t u : TS) : TS := fun D σ H => t { D with nx := u D } σ H
theorem pss_nil : PSs X [] tNext := fun _ _ σ H _ I h => wpAny_execs_nil ⟨σ, H, I, h⟩
theorem pss_cons (h1 : PS X st t) (h2 : PSs X rest u) : PSs X (st :: rest) (tSeq t u) := by
  intro pins s σ H D I h
  refine wpAny_execs_cons (thn (h1 pins s σ H { D with nx := u D } I h) fun f s1 q => ?_)
  cases f with
  | next =>
    obtain ⟨σ', H', I', q⟩ := q
    exact h2 pins s1 σ' H' D I' q
  | ret v => exact q
  | brk => exact q
  | cont => exact q
theorem pss_one (h1 : PS X st t) : PSs X [st] t := by
  intro pins s σ H D I h
  refine wpAny_execs_cons (thn (h1 pins s σ H D I h) fun f s1 q => ?_)
  cases f with
  | next => exact wpAny_execs_nil q
  | ret v => exact q
  | brk => exact q
  | cont => exact q
def tCont : TS := fun D σ H => D.ct σ H
theorem ps_continue : PS X (.Continue pos) tCont := fun _ _ σ H _ I h => wpAny_Continue ⟨σ, H, I, h⟩
theorem Inv.quiet {pins : List (Addr × Obj)} {σ : St} {H : Hp} {s : Shared} (I : Inv X pins σ H s) : interactive X.env = false := by simp [interactive, I.ok.kind]
def tDrop (te : TE) : TS := fun D σ H => te σ H fun _ H1 => D.nx σ H1
theorem ps_expr (he : PE X e te) (hs : swapsWith e none pos.line X.env = pure false := by rfl) : PS X (.Expr e pos) (tDrop te) := by
  intro pins s σ H D I h
  exact wpAny_Expr_any (thn (he pins s σ H _ I h) fun v s1 ⟨x, H1, I1, r1, q1⟩ => ⟨σ, H1, I1, q1⟩) I.quiet hs
def tRet (te : TE) : TS := fun D σ H => te σ H D.rt
theorem ps_ret (he : PE X e te) : PS X (.Return (some e) pos) (tRet te) := by
  intro pins s σ H D I h
  exact wpAny_Return_some (thn (he pins s σ H _ I h) fun v s1 ⟨x, H1, I1, r1, q1⟩ => ⟨x, σ, H1, I1, r1, q1⟩)
def tIfS (c : TT) (t u : TS) : TS := fun D σ H => c σ H fun b H1 => if b = true then t D σ H1 else u D σ H1
theorem ps_if {c : Expr} {a b : List Stmt} {tc : TT} (hc : PT X c tc) (ha : PSs X a t) (hb : PSs X b u) : PS X (.If c a b pos) (tIfS tc t u) := by
  intro pins s σ H D I h
  refine wpAny_If (thn (hc pins s σ H _ I h) fun d s1 ⟨H1, I1, q1⟩ => ?_)
  cases d with
  | true => exact ha pins s1 σ H1 D I1 q1
  | false => exact hb pins s1 σ H1 D I1 q1
end
abbrev TG := V → St → Hp → (St → Hp → Prop) → Prop
abbrev TGs := List V → St → Hp → (St → Hp → Prop) → Prop
def PG (X : Cx) (target : Expr) (t : TG) : Prop :=
  ∀ (pins : List (Addr × Obj)) (s : Shared) (σ : St) (H : Hp) (v : V) (u : Value) (Q : St → Hp → Prop), Inv X pins σ H s → RelV v u → t v σ H Q →
    wpAny (model X.prog X.w) X.A (assign target X.env u) (fun _ s' => ∃ σ' H', Inv X pins σ' H' s' ∧ Q σ' H') X.xe s
def PGs (X : Cx) (ts : List Expr) (t : TGs) : Prop :=
  ∀ (pins : List (Addr × Obj)) (s : Shared) (σ : St) (H : Hp) (vs : List V) (us : List Value) (Q : St → Hp → Prop), Inv X pins σ H s → Vals vs us → t vs σ H Q →
    wpAny (model X.prog X.w) X.A (assignInOrder ((assignEach ts X.env).map (·.2)) us) (fun _ s' => ∃ σ' H', Inv X pins σ' H' s' ∧ Q σ' H') X.xe s
abbrev TIp := V → V → Hp → VK → Prop
def PIp (X : Cx) (op : Operator) (t : TIp) : Prop :=
  ∀ (pins : List (Addr × Obj)) (s : Shared) (σ : St) (H : Hp) (x y : V) (v u : Value) (Q : VK), Inv X pins σ H s → RelV x v → RelV y u → t x y H Q →
    wpAny (model X.prog X.w) X.A (inplaceOp op v u) (EP X pins σ Q) X.xe s
section
variable {X : Cx} {pos : Pos}
def gName (i : Nat) : TG := fun v σ H Q => Q (σ.set i (some v)) H
theorem pg_name {i : Nat} {x : Str} (hN : X.N.Nodup) (hi : X.N[i]? = some x) (hx : Loc X.env.scope x) (hf : X.fn x = true ∨ X.env.scope.names.lookup x = some .local := by first | exact .inl rfl | exact .inr rfl | assumption) : PG X (.Name x pos) (gName i) := by
  intro pins s σ H v u Q I r h
  exact wpAny_assign_Name (store_ok I hN hi hx r (fun s' I' => ⟨_, H, I', h⟩) hf)
def gNil : TGs := fun vs σ H Q => vs = [] ∧ Q σ H
def gCons (t : TG) (u : TGs) : TGs := fun vs σ H Q => ∃ v r, vs = v :: r ∧ t v σ H fun σ' H' => u r σ' H' Q
theorem pgs_nil : PGs X [] gNil := by
  intro pins s σ H vs us Q I r h
  obtain ⟨e, h⟩ := h
  subst e
  cases r
  exact assignInOrder_nil ⟨σ, H, I, h⟩
theorem pgs_cons {e : Expr} {es : List Expr} {t : TG} {u : TGs} (h1 : PG X e t) (h2 : PGs X es u)
    (hs : (assignEach (e :: es) X.env).map (·.2) = assign e X.env :: (assignEach es X.env).map (·.2) := by rfl) : PGs X (e :: es) (gCons t u) := by
  intro pins s σ H vs us Q I r h
  obtain ⟨v, vr, e1, h⟩ := h
  subst e1
  cases r with
  | cons r rr =>
    rw [hs]
    refine assignInOrder_cons (thn (h1 pins s σ H _ _ _ I r h) fun _ s1 ⟨σ1, H1, I1, q1⟩ => ?_)
    exact h2 pins s1 σ1 H1 _ _ Q I1 rr q1
def gTup (K : PySem.W.Frag) (n : Nat) (t : TGs) : TG := fun v σ H Q => ∃ a xs, v = .ref a ∧ SqT K H a xs ∧ xs.length = n ∧ t xs σ H Q
theorem pg_tup {es : List Expr} {k : Nat} {t : TGs} {n : Nat} (hc : X.calm = true) (h : PGs X es t)
    (hn : (assignEach es X.env).length = n := by rfl) (hst : (assignEach es X.env).findIdx? (·.1) = none := by rfl) : PG X (.Tuple es k pos) (gTup X.K n t) := by
  intro pins s σ H v u Q I r hw
  obtain ⟨a, xs, e1, hq, hl, hw⟩ := hw
  subst e1
  cases r
  obtain ⟨its, rv, ht, hz⟩ := I.tuple hq
  refine assign_Tuple_tuple (I.ok.hd hc) ht (by simp [hn, ← hl, rv.length]) hst fun h' hx => ?_
  have I1 : Inv X pins σ H { s with heap := h' } := I.kept (t' := s.toks) fun b o e => hx b o (Nat.ne_of_lt (Heap.lt_size e)) e
  exact h pins _ σ H xs _ Q I1 (by simpa using rv) hw
def tAsg (te : TE) (g : TG) : TS := fun D σ H => te σ H fun x H1 => g x σ H1 D.nx
theorem ps_set {i : Nat} {x : Str} {e : Expr} {te : TE} {pos' : Pos} (hN : X.N.Nodup) (hi : X.N[i]? = some x) (hx : Loc X.env.scope x) (he : PE X e te) (hs : swapsWith e (some (.Name x pos')) pos.line X.env = pure false := by rfl) (hf : X.fn x = true ∨ X.env.scope.names.lookup x = some .local := by first | exact .inl rfl | exact .inr rfl | assumption) :
    PS X (.Assign [.Name x pos'] e pos) (tAsg te (gName i)) := by
  intro pins s σ H D I h
  refine wpAny_Assign_Name (thn (he pins s σ H _ I h) fun v s1 ⟨y, H1, I1, r1, q1⟩ => ?_) hs
  exact store_ok I1 hN hi hx r1 (fun s2 I2 => ⟨_, H1, I2, q1⟩) hf
def tAug (i : Nat) (te : TE) (ti : TIp) : TS := fun D σ H => ∃ x, σ[i]? = some (some x) ∧ te σ H fun y H1 => ti x y H1 fun z H2 => D.nx (σ.set i (some z)) H2
theorem ps_aug {i : Nat} {x : Str} {e : Expr} {te : TE} {op : Operator} {ti : TIp} {pos' : Pos} (hN : X.N.Nodup) (hi : X.N[i]? = some x) (hx : Loc X.env.scope x) (he : PE X e te) (ho : PIp X op ti) (hf : X.fn x = true ∨ X.env.scope.names.lookup x = some .local := by first | exact .inl rfl | exact .inr rfl | assumption) :
    PS X (.AugAssign (.Name x pos') op e pos) (tAug i te ti) := by
  intro pins s σ H D I h
  obtain ⟨v, e1, h⟩ := h
  obtain ⟨m, hn, hl⟩ := I.loc
  have vis : Vis X.env.scope x := by rcases hx with k | k; exact .inl k; exact .inr (.inl k)
  obtain ⟨u, r, l⟩ := hl i x v hi e1 vis
  refine wpAny_AugAssign_Name ?_
  have go : wpAny (model X.prog X.w) X.A (eval e X.env) (fun w s₂ => wpAny (model X.prog X.w) X.A (inplaceOp op u w) (fun r s₃ => wpAny (model X.prog X.w) X.A (storeName X.env x r) (fun _ => SP X pins D .next) X.xe s₃) X.xe s₂) X.xe s := by
    refine thn (he pins s σ H _ I h) fun w s1 ⟨y, H1, I1, r1, q1⟩ => ?_
    refine thn (ho pins s1 σ H1 v y u w _ I1 r r1 q1) fun z s2 ⟨zv, H2, I2, r2, q2⟩ => ?_
    exact store_ok I2 hN hi hx r2 (fun s3 I3 => ⟨_, H2, I3, q2⟩) hf
  rcases l with ⟨hk, hm⟩ | ⟨hk, c, hc, hcell⟩
  · exact wpAny_loadName_local I.ok.kind hk hn hm go
  · rcases hk with hk | hk
    · exact wpAny_loadName_cell I.ok.kind hk hc hcell go
    · rcases hx with k | k
      · have : X.env.scope.names.lookup x = some .free := hk
        rw [k] at this; cases this
      · have : X.env.scope.names.lookup x = some .free := hk
        rw [k] at this; cases this
def ipI (f : Int → Int → Int) : TIp := fun x y H Q => ∃ i j, x = .int i ∧ y = .int j ∧ Q (.int (f i j)) H
theorem ip_add : PIp X .Add (ipI fun i j => i + j) := by
  intro pins s σ H x y v u Q I r1 r2 h
  obtain ⟨i, j, e1, e2, q⟩ := h
  subst e1; subst e2
  obtain ⟨t, rfl⟩ := r1
  obtain ⟨t', rfl⟩ := r2
  exact iadd_int ⟨.int _, H, I.tok _, ⟨_, rfl⟩, q⟩
theorem ip_sub : PIp X .Sub (ipI fun i j => i - j) := by
  intro pins s σ H x y v u Q I r1 r2 h
  obtain ⟨i, j, e1, e2, q⟩ := h
  subst e1; subst e2
  obtain ⟨t, rfl⟩ := r1
  obtain ⟨t', rfl⟩ := r2
  exact isub_int ⟨.int _, H, I.tok _, ⟨_, rfl⟩, q⟩
end
section
variable {X : Cx} {pos : Pos}
def tWhile (c : TT) (tb : TS) : TS := fun D σ H => ∃ W : Nat → St → Hp → Prop, (∃ m, W m σ H) ∧ ∀ m σ H, W m σ H →
  c σ H fun b H1 => if b = true then ∃ N : St → Hp → Prop, (∀ σ' H', N σ' H' → ∃ m', m' < m ∧ W m' σ' H') ∧ tb { D with nx := N, ct := N, bk := D.nx } σ H1 else D.nx σ H1
theorem ps_while {c : Expr} {body : List Stmt} {tc : TT} {tb : TS} (hp : PassesOwn (model X.prog X.w) X.A X.env X.xe) (hc : PT X c tc) (hb : PSs X body tb) : PS X (.While c body [] pos) (tWhile tc tb) := by
  intro pins s σ H D I h
  obtain ⟨W, ⟨m0, w0⟩, turn⟩ := h
  refine wpAny_While (codeAny_whileLoop (fun n s' => ∃ σ' H', Inv X pins σ' H' s' ∧ W n σ' H') ?_ m0 ⟨σ, H, I, w0⟩)
  rintro n s1 ⟨σ1, H1, I1, w1⟩
  refine wpAny_passesOwn hp (thn (hc pins s1 σ1 H1 _ I1 (turn n σ1 H1 w1)) fun b s2 ⟨H2, I2, q2⟩ => ?_)
  cases b with
  | true =>
    obtain ⟨N, hN, q2⟩ := q2
    rw [if_pos rfl]
    refine wpAny_passesOwn hp (thn (hb pins s2 σ1 H2 _ I2 q2) fun f s3 q3 => ?_)
    cases f with
    | next =>
      obtain ⟨σ3, H3, I3, n3⟩ := q3
      obtain ⟨m', hm, w3⟩ := hN σ3 H3 n3
      exact ⟨m', hm, σ3, H3, I3, w3⟩
    | cont =>
      obtain ⟨σ3, H3, I3, n3⟩ := q3
      obtain ⟨m', hm, w3⟩ := hN σ3 H3 n3
      exact ⟨m', hm, σ3, H3, I3, w3⟩
    | brk => exact q3
    | ret v => exact q3
  | false =>
    rw [if_neg Bool.false_ne_true]
    exact wpAny_execs_nil ⟨σ1, H2, I2, q2⟩
end
structure It where
  go : Nat → Hp → Prop
  yld : Nat → Hp → V → Hp → Prop
  stop : Nat → Hp → Prop
def FpOk (X : Cx) (pins : List (Addr × Obj)) (H : Hp) (b : Addr) : Prop :=
  H b = none ∧ b ≠ X.env.locals ∧ b ∉ X.fs ∧ (b ∈ X.ex ∨ X.s_0.heap.objs.size ≤ b) ∧ (∀ x c, X.env.cells.lookup x = some c → c ≠ b) ∧ ∀ p ∈ X.pn ++ pins, p.1 ≠ b
theorem Inv.fpOk {X : Cx} {pins : List (Addr × Obj)} {σ : St} {H H' : Hp} {s : Shared} {b : Addr} (I : Inv X pins σ H s) (hb : s.heap.objs.size ≤ b) (hn : H' b = none) : FpOk X pins H' b := by
  refine ⟨hn, Nat.ne_of_gt (Nat.lt_of_lt_of_le I.lt hb), I.nofs hb, .inr (Nat.le_trans I.sz hb), fun x c e z => ?_, fun p hp z => ?_⟩
  · obtain ⟨v, q⟩ := I.cell x c e
    exact absurd (Nat.lt_of_lt_of_le q.lt (by rw [z]; exact hb)) (Nat.lt_irrefl _)
  · exact absurd (Nat.lt_of_lt_of_le (Heap.lt_size (I.pin p hp).1) (by rw [z]; exact hb)) (Nat.lt_irrefl _)
structure Turn (P : Program) (w : World) (K : PySem.W.Frag) (tg : Expr) (J : It) (fp : List Addr) (it : Addr) (tn : Nat → Heap → Prop) : Prop where
  mem : it ∈ fp
  obj : ∀ i h, tn i h → ∀ b ∈ fp, ∃ o, h.get? b = some o ∧ ∀ v, o.data ≠ .cell v
  keep : ∀ i h h', tn i h → (∀ b ∈ fp, ∀ o, h.get? b = some o → h'.get? b = some o) → tn i h'
  item : ∀ (X : Cx), X.prog = P → X.w = w → X.K = K → X.calm = true → ∀ (i : Nat) (pins : List (Addr × Obj)) (s : Shared) (σ : St) (H : Hp) (E : Value → Shared → Prop), Inv X pins σ H s → (∀ b ∈ fp, FpOk X pins H b) → tn i s.heap → J.go i H →
    wpAny (model P w) X.A (pyNext (.ref it)) (fun r s1 => ∃ u, r = some u ∧
      wpAny (model P w) X.A (letOwnedTupleGo tg (.ref it) u) (fun _ s2 => ∃ x H', Inv X pins σ H' s2 ∧ RelV x u ∧ J.yld i H x H' ∧ tn (i + 1) s2.heap ∧ ∀ b ∈ fp, H' b = none) E s1) E s
  done : ∀ (X : Cx), X.prog = P → X.w = w → X.K = K → X.calm = true → ∀ (i : Nat) (pins : List (Addr × Obj)) (s : Shared) (σ : St) (H : Hp) (E : Value → Shared → Prop), Inv X pins σ H s → (∀ b ∈ fp, FpOk X pins H b) → tn i s.heap → J.stop i H →
    wpAny (model P w) X.A (pyNext (.ref it)) (fun r s1 => r = none ∧ Inv X pins σ H s1) E s
  self : ∀ (A : Around) (i : Nat) (s : Shared) (Q : Value → Shared → Prop) (E : Value → Shared → Prop), tn i s.heap → Q (.ref it) s → wpAny (model P w) A (pyIter (.ref it)) Q E s
abbrev TI := St → Hp → (It → Hp → Prop) → Prop
def PIE (X : Cx) (pins : List (Addr × Obj)) (σ : St) (tg : Expr) (R : It → Hp → Prop) (itv : Value) (s2 : Shared) : Prop :=
  ∃ (it : Addr) (fp : List Addr) (tn : Nat → Heap → Prop) (J : It) (H' : Hp), itv = .ref it ∧ Inv X pins σ H' s2 ∧ Turn X.prog X.w X.K tg J fp it tn ∧ tn 0 s2.heap ∧ (∀ b ∈ fp, FpOk X pins H' b) ∧ R J H'
def PI (X : Cx) (tg iter : Expr) (wi : TI) : Prop :=
  ∀ (pins : List (Addr × Obj)) (s : Shared) (σ : St) (H : Hp) (R : It → Hp → Prop), Inv X pins σ H s → wi σ H R →
    wpAny (model X.prog X.w) X.A (eval iter X.env) (fun v s1 => wpAny (model X.prog X.w) X.A (pyIter v) (PIE X pins σ tg R) X.xe s1) X.xe s
theorem go_of {M : Model} {A : Around} {E : Value → Shared → Prop} {s : Shared} {tg : Expr} {it : Addr} {u : Value} {o : Obj} {n : String} {vs : Array Value} {Q : Unit → Shared → Prop} (ho : s.heap.get? it = some o) (hc : o.cls = .type n) (hd : o.data = .fields vs)
    (hn : ["enumerate", "zip", "dict_itemiterator", "dict_reverseitemiterator", "odict_iterator", "itertools.zip_longest", "itertools.pairwise"].contains n = false) (hQ : Q () s) : wpAny M A (letOwnedTupleGo tg (.ref it) u) Q E s := by
  unfold letOwnedTupleGo
  cases tg <;> first
    | exact wpAny_pure hQ
    | (cases u <;> first
        | exact wpAny_pure hQ
        | (refine wpAny_bind (wpAny_load ho ?_)
           rw [hc, hd]
           show wpAny M A (if (["enumerate", "zip", "dict_itemiterator", "dict_reverseitemiterator", "odict_iterator", "itertools.zip_longest", "itertools.pairwise"].contains n && vs[0]? == some (rawInt _)) = true then _ else _) Q E s
           rw [if_neg (by intro h; rw [hn, Bool.false_and] at h; cases h)]
           exact wpAny_pure hQ))
def Itl (K : PySem.W.Frag) (a : Addr) : It :=
  ⟨fun i H => ∃ xs x, SqL K H a xs ∧ xs[i]? = some x, fun i H x H' => H' = H ∧ ∀ xs, SqL K H a xs → xs[i]? = some x, fun i H => ∃ xs, SqL K H a xs ∧ xs.length ≤ i⟩
def Itt (K : PySem.W.Frag) (a : Addr) : It :=
  ⟨fun i H => ∃ xs x, SqT K H a xs ∧ xs[i]? = some x, fun i H x H' => H' = H ∧ ∀ xs, SqT K H a xs → xs[i]? = some x, fun i H => ∃ xs, SqT K H a xs ∧ xs.length ≤ i⟩
def Itr (lo : Int) (n : Nat) : It := ⟨fun i _ => i < n, fun i H x H' => H' = H ∧ x = .int (lo + i), fun i _ => n ≤ i⟩
theorem turn_list {P : Program} {w : World} {K : PySem.W.Frag} {tg : Expr} (a it : Addr) : Turn P w K tg (Itl K a) [it] it (fun i h => h.IsListIter it a i) where
  mem := by simp
  obj := fun i h st b hb => by
    have e : b = it := by simpa using hb
    subst e
    obtain ⟨o, e, c, d⟩ := st
    exact ⟨o, e, fun v z => by rw [d] at z; cases z⟩
  keep := fun i h h' st k => st.at fun o e => k it (by simp) o e
  item := by
    intro X hP hw hK hc i pins s σ H E I hf st hg
    subst hP hw hK
    obtain ⟨xs, x, hq, hx⟩ := hg
    obtain ⟨its, rv, p, hz⟩ := I.list hq
    obtain ⟨u, hu, ru⟩ := rv.get hx
    obtain ⟨f0, f1, f2, f3, f4, f5⟩ := hf it (by simp)
    refine wpAny_pyNext_list_item st p.isList (x := u) (by simpa using hu) fun h' st' sb => ?_
    have I1 : Inv X pins σ H { s with heap := h' } := I.turned (t' := s.toks) (fun b o hb e => (sb.2 b hb).trans e) f0 f1 f3 f4 f5
    obtain ⟨o, e, c, d⟩ := id st'
    exact ⟨u, rfl, go_of (s := { s with heap := h' }) e c d (by decide) ⟨x, H, I1, ru, ⟨rfl, fun ys hy => by rw [I.list_inj hy hq]; exact hx⟩, st', fun b hb => (hf b hb).1⟩⟩
  done := by
    intro X hP hw hK hc i pins s σ H E I hf st hg
    subst hP hw hK
    obtain ⟨xs, hq, hx⟩ := hg
    obtain ⟨its, rv, p, hz⟩ := I.list hq
    obtain ⟨f0, f1, f2, f3, f4, f5⟩ := hf it (by simp)
    have hl := rv.length
    exact wpAny_pyNext_list_end (I.ok.hd hc) st p.isList (by simp; trivial) fun h' eb => ⟨rfl, I.turned (t' := s.toks) (fun b o hb e => eb b o hb e) f0 f1 f3 f4 f5⟩
  self := fun _ _ _ _ _ st h => wpAny_pyIter_listiter st h
theorem turn_tuple {P : Program} {w : World} {K : PySem.W.Frag} {tg : Expr} (a it : Addr) : Turn P w K tg (Itt K a) [it] it (fun i h => h.IsTupleIter it a i) where
  mem := by simp
  obj := fun i h st b hb => by
    have e : b = it := by simpa using hb
    subst e
    obtain ⟨o, e, c, d⟩ := st
    exact ⟨o, e, fun v z => by rw [d] at z; cases z⟩
  keep := fun i h h' st k => st.at fun o e => k it (by simp) o e
  item := by
    intro X hP hw hK hc i pins s σ H E I hf st hg
    subst hP hw hK
    obtain ⟨xs, x, hq, hx⟩ := hg
    obtain ⟨its, rv, p, hz⟩ := I.tuple hq
    obtain ⟨u, hu, ru⟩ := rv.get hx
    obtain ⟨f0, f1, f2, f3, f4, f5⟩ := hf it (by simp)
    refine wpAny_pyNext_tuple_item st (show s.heap.IsTuple a its.toArray from p) (x := u) (by simpa using hu) fun h' st' sb => ?_
    have I1 : Inv X pins σ H { s with heap := h' } := I.turned (t' := s.toks) (fun b o hb e => (sb.2 b hb).trans e) f0 f1 f3 f4 f5
    obtain ⟨o, e, c, d⟩ := id st'
    exact ⟨u, rfl, go_of (s := { s with heap := h' }) e c d (by decide) ⟨x, H, I1, ru, ⟨rfl, fun ys hy => by rw [I.tuple_inj hy hq]; exact hx⟩, st', fun b hb => (hf b hb).1⟩⟩
  done := by
    intro X hP hw hK hc i pins s σ H E I hf st hg
    subst hP hw hK
    obtain ⟨xs, hq, hx⟩ := hg
    obtain ⟨its, rv, p, hz⟩ := I.tuple hq
    obtain ⟨f0, f1, f2, f3, f4, f5⟩ := hf it (by simp)
    have hl := rv.length
    exact wpAny_pyNext_tuple_end (I.ok.hd hc) st (show s.heap.IsTuple a its.toArray from p) (by simp; trivial) fun h' eb => ⟨rfl, I.turned (t' := s.toks) (fun b o hb e => eb b o hb e) f0 f1 f3 f4 f5⟩
  self := fun _ _ _ _ _ st h => wpAny_pyIter_tupleiter st h
theorem turn_range {P : Program} {w : World} {K : PySem.W.Frag} {tg : Expr} (it : Addr) (lo : Int) (n : Nat) : Turn P w K tg (Itr lo n) [it] it (fun i h => IsRangeIter h it (lo + (i : Nat) * 1) ((n : Int) - (i : Nat)) 1) where
  mem := by simp
  obj := fun i h st b hb => by
    have e : b = it := by simpa using hb
    subst e
    exact ⟨_, st, fun v z => by
      have z' : Data.fields _ = Data.cell v := z
      cases z'⟩
  keep := fun i h h' st k => k it (by simp) _ st
  item := by
    intro X hP hw hK hc i pins s σ H E I hf st hg
    subst hP hw hK
    obtain ⟨f0, f1, f2, f3, f4, f5⟩ := hf it (by simp)
    have W := Walks.range (prog := X.prog) (w := X.w) (I.ok.hd hc) it lo 1 n
    refine W.item i s _ _ hg st fun v h' tk hv st' kk => ?_
    obtain ⟨t, rfl⟩ := hv
    have I1 : Inv X pins σ H { s with heap := h', toks := tk } := I.turned (fun b o hb e => kk b o (by simpa using hb) e) f0 f1 f3 f4 f5
    refine ⟨_, rfl, go_of (s := { s with heap := h', toks := tk }) (n := "range_iterator") st' rfl rfl (by decide) ⟨.int (lo + i), H, I1, ⟨t, ?_⟩, ⟨rfl, rfl⟩, st', fun b hb => (hf b hb).1⟩⟩
    rw [Int.mul_one]
  done := by
    intro X hP hw hK hc i pins s σ H E I hf st hg
    subst hP hw hK
    obtain ⟨f0, f1, f2, f3, f4, f5⟩ := hf it (by simp)
    exact wpAny_pyNext_range_end (I.ok.hd hc) st (by have : n ≤ i := hg; trivial) fun h' eb => ⟨rfl, I.turned (t' := s.toks) (fun b o hb e => eb b o hb e) f0 f1 f3 f4 f5⟩
  self := fun _ _ _ _ _ st h => wpAny_pyIter_rangeiter st h
end L2
namespace L2
open PySem PySem.Spec PyProof.Rows
section
variable {X : Cx} {tg : Expr}
def iList (K : PySem.W.Frag) (tl : TE) : TI := fun σ H R => tl σ H fun x H1 => ∃ a, x = .ref a ∧ (∃ xs, SqL K H1 a xs) ∧ R (Itl K a) H1
def iTup (K : PySem.W.Frag) (tl : TE) : TI := fun σ H R => tl σ H fun x H1 => ∃ a, x = .ref a ∧ (∃ xs, SqT K H1 a xs) ∧ R (Itt K a) H1
theorem pi_list {l : Expr} {tl : TE} (hl : PE X l tl) : PI X tg l (iList X.K tl) := by
  intro pins s σ H R I h
  refine thn (hl pins s σ H _ I h) fun v s1 ⟨x, H1, I1, r1, q1⟩ => ?_
  obtain ⟨a, e, ⟨xs, hq⟩, q⟩ := q1
  subst e
  cases r1
  obtain ⟨its, rv, p, hz⟩ := I1.list hq
  refine wpAny_pyIter_list p.isList ?_
  refine ⟨s1.heap.objs.size, [s1.heap.objs.size], _, _, H1, rfl, I1.kept (t' := s1.toks) fun b o e => Heap.get?_push_of_some _ e, turn_list a _, ⟨_, Heap.get?_push_size _ rfl, rfl, rfl⟩, fun b hb => ?_, q⟩
  have e : b = s1.heap.objs.size := by simpa using hb
  subst e
  exact I1.fpOk (Nat.le_refl _) (I1.hok.fresh (Nat.le_refl _))
theorem pi_tup {l : Expr} {tl : TE} (hl : PE X l tl) : PI X tg l (iTup X.K tl) := by
  intro pins s σ H R I h
  refine thn (hl pins s σ H _ I h) fun v s1 ⟨x, H1, I1, r1, q1⟩ => ?_
  obtain ⟨a, e, ⟨xs, hq⟩, q⟩ := q1
  subst e
  cases r1
  obtain ⟨its, rv, p, hz⟩ := I1.tuple hq
  refine wpAny_pyIter_tuple (show s1.heap.IsTuple a its.toArray from p) ?_
  refine ⟨s1.heap.objs.size, [s1.heap.objs.size], _, _, H1, rfl, I1.kept (t' := s1.toks) fun b o e => Heap.get?_push_of_some _ e, turn_tuple a _, ⟨_, Heap.get?_push_size _ rfl, rfl, rfl⟩, fun b hb => ?_, q⟩
  have e : b = s1.heap.objs.size := by simpa using hb
  subst e
  exact I1.fpOk (Nat.le_refl _) (I1.hok.fresh (Nat.le_refl _))
theorem range_it {pins : List (Addr × Obj)} {σ : St} {H : Hp} {s : Shared} {R : It → Hp → Prop} {E : Value → Shared → Prop} {lo hi : Int} {t u v : Tok} {tk : Nat} (I : Inv X pins σ H s) (h1 : -(2 ^ 62) ≤ lo) (h2 : lo < 2 ^ 62) (h3 : -(2 ^ 62) ≤ hi) (h4 : hi < 2 ^ 62)
    (q : R (Itr lo (hi - lo).toNat) H) : wpAny (model X.prog X.w) X.A (pyIter (.ref s.heap.objs.size)) (PIE X pins σ tg R) E { s with heap := s.heap.push { cls := .type "range", data := .fields #[.int lo t, .int hi u, .int 1 v] }, toks := tk } := by
  refine wpAny_pyIter_range (IsRange.new ..) (small_one h1 h2 h3 h4) ?_
  have I1 : Inv X pins σ H { s with heap := s.heap.push { cls := .type "range", data := .fields #[.int lo t, .int hi u, .int 1 v] }, toks := tk } := I.kept fun b o e => Heap.get?_push_of_some _ e
  refine ⟨(s.heap.push { cls := .type "range", data := .fields #[.int lo t, .int hi u, .int 1 v] }).objs.size, [(s.heap.push { cls := .type "range", data := .fields #[.int lo t, .int hi u, .int 1 v] }).objs.size], _, _, H, rfl,
    I1.kept (t' := tk) fun b o e => Heap.get?_push_of_some _ e, turn_range _ lo (hi - lo).toNat, ?_, fun b hb => ?_, q⟩
  · have e1 : lo + ((0 : Nat) : Int) * 1 = lo := by simp
    have e2 : (((hi - lo).toNat : Nat) : Int) - ((0 : Nat) : Int) = Builtin.Range.rangeSize lo hi 1 := by rw [rangeSize_one]; split <;> trivial
    show IsRangeIter _ _ (lo + ((0 : Nat) : Int) * 1) ((((hi - lo).toNat : Nat) : Int) - ((0 : Nat) : Int)) 1
    rw [e1, e2]
    exact Heap.get?_push_size _ rfl
  · have e : b = (s.heap.push { cls := .type "range", data := .fields #[.int lo t, .int hi u, .int 1 v] }).objs.size := by simpa using hb
    subst e
    exact I1.fpOk (Nat.le_refl _) (I1.hok.fresh (Nat.le_refl _))
def iRng1 (ta : TA) : TI := fun σ H R => ta σ H fun vs H1 => ∃ j : Int, vs = [.int j] ∧ -(2 ^ 62) ≤ j ∧ j < 2 ^ 62 ∧ R (Itr 0 j.toNat) H1
def iRng2 (ta : TA) : TI := fun σ H R => ta σ H fun vs H1 => ∃ i j : Int, vs = [.int i, .int j] ∧ (-(2 ^ 62) ≤ i ∧ i < 2 ^ 62 ∧ -(2 ^ 62) ≤ j ∧ j < 2 ^ 62) ∧ R (Itr i (j - i).toNat) H1
theorem pi_range1 {a : Expr} {ta : TA} {p pos : Pos} (hg : Gl X "range") (hm : X.mg "range" = none) (ha : PA X [a] ta) (hs : starEach [a] X.env = [(false, eval a X.env)] := by rfl) : PI X tg (.Call (.Name "range" p) [a] [] pos) (iRng1 ta) := by
  intro pins s σ H R I h
  refine Call_ (ld_blt I hg hm boot_range (PyProof.Rows.callWith_type1 (thn (ha pos pins s σ H _ I h) fun us s1 ⟨vs, H1, I1, r1, q1⟩ => ?_) hs rfl))
  obtain ⟨j, e, q1, q2, q⟩ := q1
  subst e
  cases r1 with
  | cons r rr =>
    cases rr
    obtain ⟨t, rfl⟩ := r
    exact call_range_1 (range_it I1 (by trivial) (by trivial) q1 q2 (by simpa using q))
theorem pi_range2 {a b : Expr} {ta : TA} {p pos : Pos} (hg : Gl X "range") (hm : X.mg "range" = none) (ha : PA X [a, b] ta) (hs : starEach [a, b] X.env = [(false, eval a X.env), (false, eval b X.env)] := by rfl) (hs2 : starEach [b] X.env = [(false, eval b X.env)] := by rfl) :
    PI X tg (.Call (.Name "range" p) [a, b] [] pos) (iRng2 ta) := by
  intro pins s σ H R I h
  refine Call_ (ld_blt I hg hm boot_range (PyProof.Rows.callWith_type1 (thn (ha pos pins s σ H _ I h) fun us s1 ⟨vs, H1, I1, r1, q1⟩ => ?_) (by rw [hs, hs2]) (by rw [hs2]; rfl)))
  obtain ⟨i, j, e, ⟨q1, q2, q3, q4⟩, q⟩ := q1
  subst e
  cases r1 with
  | cons r rr =>
    cases rr with
    | cons r' rr =>
      cases rr
      obtain ⟨t, rfl⟩ := r
      obtain ⟨t', rfl⟩ := r'
      exact call_range_2 (range_it I1 q1 q2 q3 q4 q)
def tFor (wi : TI) (g : TG) (tb : TS) : TS := fun D σ H => wi σ H fun J H1 => ∃ W : Nat → Nat → St → Hp → Prop, (∃ m, W 0 m σ H1) ∧ ∀ i m σ H, W i m σ H →
  (J.stop i H ∧ D.nx σ H) ∨ (J.go i H ∧ ∃ N : St → Hp → Prop, (∀ σ' H', N σ' H' → ∃ m', m' < m ∧ W (i + 1) m' σ' H') ∧ ∀ x H', J.yld i H x H' → g x σ H' fun σ2 H2 => tb { D with nx := N, ct := N, bk := D.nx } σ2 H2)
def pinsAt (fp : List Addr) (h : Heap) : List (Addr × Obj) := fp.filterMap fun b => (h.get? b).map fun o => (b, o)
theorem mem_pinsAt {fp : List Addr} {h : Heap} {b : Addr} {o : Obj} (hb : b ∈ fp) (e : h.get? b = some o) : (b, o) ∈ pinsAt fp h := List.mem_filterMap.mpr ⟨b, hb, by rw [e]; rfl⟩
theorem of_pinsAt {fp : List Addr} {h : Heap} {p : Addr × Obj} (hp : p ∈ pinsAt fp h) : p.1 ∈ fp ∧ h.get? p.1 = some p.2 := by
  obtain ⟨b, hb, e⟩ := List.mem_filterMap.mp hp
  cases q : h.get? b with
  | none => rw [q] at e; cases e
  | some o =>
    rw [q] at e
    have e' : (b, o) = p := Option.some.inj e
    subst e'
    exact ⟨hb, q⟩
theorem Inv.pinned {pins : List (Addr × Obj)} {σ : St} {H : Hp} {s : Shared} {fp : List Addr} (I : Inv X pins σ H s) (hf : ∀ b ∈ fp, FpOk X pins H b) (ho : ∀ b ∈ fp, ∃ o, s.heap.get? b = some o ∧ ∀ v, o.data ≠ .cell v) : Inv X (pins ++ pinsAt fp s.heap) σ H s :=
  I.pins_of fun p hp => (List.mem_append.mp hp).elim (fun z => I.pin p (List.mem_append_right _ z)) fun z => by
    obtain ⟨hb, e⟩ := of_pinsAt z
    obtain ⟨f0, f1, f2, _⟩ := hf p.1 hb
    obtain ⟨o, e', d⟩ := ho p.1 hb
    rw [e] at e'; cases e'
    exact ⟨e, f0, f1, f2, d⟩
theorem Inv.unpinned {pins pl : List (Addr × Obj)} {σ : St} {H : Hp} {s : Shared} (I : Inv X (pins ++ pl) σ H s) : Inv X pins σ H s := I.pins_of fun p hp => I.pin p (List.mem_append_right _ (List.mem_append_left _ hp))
theorem ps_for {iter : Expr} {body : List Stmt} {wi : TI} {g : TG} {tb : TS} {pos : Pos} (hp : PassesOwn (model X.prog X.w) X.A X.env X.xe) (hc : X.calm = true) (hi : PI X tg iter wi) (hg : PG X tg g) (hb : PSs X body tb)
    (hs : ∀ x, foldedSetIterable iter X.env x = pure x := by intro _; rfl) : PS X (.For tg iter body [] pos) (tFor wi g tb) := by
  intro pins s σ H D I h
  refine wpAny_For (thn (hi pins s σ H _ I h) fun v s1 h1 => thn h1 fun itv s2 h2 => ?_) hs
  obtain ⟨it, fp, tn, J, H2, e, I2, T, st2, f2, W, ⟨m0, w0⟩, turn⟩ := h2
  subst e
  have stat : ∀ {H' : Hp}, (∀ b ∈ fp, H' b = none) → ∀ b ∈ fp, FpOk X pins H' b := fun hn b hb => ⟨hn b hb, (f2 b hb).2⟩
  refine codeAny_forLoop_any (fun n s' => ∃ i σ' H', Inv X pins σ' H' s' ∧ tn i s'.heap ∧ (∀ b ∈ fp, H' b = none) ∧ W i n σ' H') ?_ m0 ⟨0, σ, H2, I2, st2, fun b hb => (f2 b hb).1, w0⟩
  rintro n s3 ⟨i, σ3, H3, I3, st3, fr3, w3⟩
  rcases turn i n σ3 H3 w3 with ⟨stop, qn⟩ | ⟨go, N, hN, step⟩
  · refine wpAny_passesOwn hp (thn (T.done X rfl rfl rfl hc i pins s3 σ3 H3 X.xe I3 (stat fr3) st3 stop) fun r s4 ⟨hr, I4⟩ => ?_)
    subst hr
    exact wpAny_execs_nil ⟨σ3, H3, I4, qn⟩
  · refine wpAny_passesOwn hp (thn (T.item X rfl rfl rfl hc i pins s3 σ3 H3 X.xe I3 (stat fr3) st3 go) fun r s4 ⟨u, hr, h4⟩ => ?_)
    subst hr
    refine wpAny_passesOwn hp (thn h4 fun _ s5 ⟨x, H5, I5, r5, y5, st5, fr5⟩ => ?_)
    have I5' := I5.pinned (stat fr5) (T.obj _ _ st5)
    refine wpAny_passesOwn hp (thn (hg _ s5 σ3 H5 x u _ I5' r5 (step x H5 y5)) fun _ s6 ⟨σ6, H6, I6, q6⟩ => ?_)
    refine wpAny_passesOwn hp (thn (hb _ s6 σ6 H6 _ I6 q6) fun f s7 q7 => ?_)
    have again : ∀ {σ7 : St} {H7 : Hp}, Inv X (pins ++ pinsAt fp s5.heap) σ7 H7 s7 → N σ7 H7 → ∃ m, m < n ∧ ∃ i σ' H', Inv X pins σ' H' s7 ∧ tn i s7.heap ∧ (∀ b ∈ fp, H' b = none) ∧ W i m σ' H' := fun {σ7 H7} I7 n7 => by
      obtain ⟨m', hm, w7⟩ := hN σ7 H7 n7
      refine ⟨m', hm, i + 1, σ7, H7, I7.unpinned, T.keep _ _ _ st5 fun b hb o e => (I7.pin (b, o) (List.mem_append_right _ (List.mem_append_right _ (mem_pinsAt hb e)))).1, fun b hb => ?_, w7⟩
      obtain ⟨o, e, d⟩ := T.obj _ _ st5 b hb
      exact (I7.pin (b, o) (List.mem_append_right _ (List.mem_append_right _ (mem_pinsAt hb e)))).2.1
    cases f with
    | next => obtain ⟨σ7, H7, I7, n7⟩ := q7; exact again I7 n7
    | cont => obtain ⟨σ7, H7, I7, n7⟩ := q7; exact again I7 n7
    | brk => obtain ⟨σ7, H7, I7, q7⟩ := q7; exact ⟨σ7, H7, I7.unpinned, q7⟩
    | ret v => obtain ⟨x7, σ7, H7, I7, r7, q7⟩ := q7; exact ⟨x7, σ7, H7, I7.unpinned, r7, q7⟩
end
theorem for_list {K : PySem.W.Frag} {a : Addr} {xs : List V} {g : TG} {tb : TS} {D : Ends} {σ : St} {H : Hp} (Pv : Nat → St → Hp → Prop) (h0 : Pv 0 σ H) (hl : ∀ i σ H, i ≤ xs.length → Pv i σ H → SqL K H a xs)
    (hs : ∀ i x σ H, xs[i]? = some x → Pv i σ H → g x σ H fun σ2 H2 => tb { D with nx := Pv (i + 1), ct := Pv (i + 1), bk := D.nx } σ2 H2) (hd : ∀ σ H, Pv xs.length σ H → D.nx σ H) :
    ∃ W : Nat → Nat → St → Hp → Prop, (∃ m, W 0 m σ H) ∧ ∀ i m σ H, W i m σ H →
      ((Itl K a).stop i H ∧ D.nx σ H) ∨ ((Itl K a).go i H ∧ ∃ N : St → Hp → Prop, (∀ σ' H', N σ' H' → ∃ m', m' < m ∧ W (i + 1) m' σ' H') ∧ ∀ x H', (Itl K a).yld i H x H' → g x σ H' fun σ2 H2 => tb { D with nx := N, ct := N, bk := D.nx } σ2 H2) := by
  refine ⟨fun i m σ H => m = xs.length - i ∧ i ≤ xs.length ∧ Pv i σ H, ⟨xs.length, by simp, Nat.zero_le _, h0⟩, ?_⟩
  rintro i m σ H ⟨rfl, hi, p⟩
  have q := hl i σ H hi p
  by_cases hlt : i < xs.length
  · refine .inr ⟨⟨xs, xs[i], q, by simp [hlt]⟩, Pv (i + 1), fun σ' H' p' => ⟨xs.length - (i + 1), by trivial, rfl, hlt, p'⟩, fun x H' y => ?_⟩
    obtain ⟨e, y⟩ := y
    subst e
    exact hs i x σ _ (y xs q) p
  · have e : i = xs.length := by trivial
    subst e
    exact .inl ⟨⟨xs, q, Nat.le_refl _⟩, hd σ H p⟩
theorem for_range {lo : Int} {n : Nat} {g : TG} {tb : TS} {D : Ends} {σ : St} {H : Hp} (Pv : Nat → St → Hp → Prop) (h0 : Pv 0 σ H)
    (hs : ∀ i σ H, i < n → Pv i σ H → g (.int (lo + i)) σ H fun σ2 H2 => tb { D with nx := Pv (i + 1), ct := Pv (i + 1), bk := D.nx } σ2 H2) (hd : ∀ σ H, Pv n σ H → D.nx σ H) :
    ∃ W : Nat → Nat → St → Hp → Prop, (∃ m, W 0 m σ H) ∧ ∀ i m σ H, W i m σ H →
      ((Itr lo n).stop i H ∧ D.nx σ H) ∨ ((Itr lo n).go i H ∧ ∃ N : St → Hp → Prop, (∀ σ' H', N σ' H' → ∃ m', m' < m ∧ W (i + 1) m' σ' H') ∧ ∀ x H', (Itr lo n).yld i H x H' → g x σ H' fun σ2 H2 => tb { D with nx := N, ct := N, bk := D.nx } σ2 H2) := by
  refine ⟨fun i m σ H => m = n - i ∧ i ≤ n ∧ Pv i σ H, ⟨n, by simp, Nat.zero_le _, h0⟩, ?_⟩
  rintro i m σ H ⟨rfl, hi, p⟩
  by_cases hlt : i < n
  · refine .inr ⟨hlt, Pv (i + 1), fun σ' H' p' => ⟨n - (i + 1), by trivial, rfl, hlt, p'⟩, fun x H' y => ?_⟩
    obtain ⟨e, y⟩ := y
    subst e y
    exact hs i σ _ hlt p
  · have e : i = n := by trivial
    subst e
    exact .inl ⟨Nat.le_refl _, hd σ H p⟩
theorem while_by {c : TT} {tb : TS} {D : Ends} {σ : St} {H : Hp} (Pv : St → Hp → Prop) (μ : St → Hp → Nat) (h0 : Pv σ H)
    (hs : ∀ σ H, Pv σ H → c σ H fun b H1 => if b = true then tb { D with nx := fun σ' H' => Pv σ' H' ∧ μ σ' H' < μ σ H, ct := fun σ' H' => Pv σ' H' ∧ μ σ' H' < μ σ H, bk := D.nx } σ H1 else D.nx σ H1)
    (mono : ∀ σ H Q Q', (∀ b H1, Q b H1 → Q' b H1) → c σ H Q → c σ H Q') : tWhile c tb D σ H := by
  refine ⟨fun m σ H => m = μ σ H ∧ Pv σ H, ⟨_, rfl, h0⟩, ?_⟩
  rintro m σ H ⟨rfl, p⟩
  refine mono σ H _ _ (fun b H1 q => ?_) (hs σ H p)
  cases b with
  | true => exact ⟨_, fun σ' H' ⟨p', l⟩ => ⟨_, l, rfl, p'⟩, q⟩
  | false => exact q
end L2
namespace L2
open PySem PySem.Spec PyProof.Rows
abbrev R2 := V → V → Hp → VK → Prop
def OpR (X : Cx) (f : Value → Value → Sem Value) (r : R2) : Prop :=
  ∀ (pins : List (Addr × Obj)) (s : Shared) (σ : St) (H : Hp) (x y : V) (v u : Value) (Q : VK), Inv X pins σ H s → RelV x v → RelV y u → r x y H Q →
    wpAny (model X.prog X.w) X.A (f v u) (EP X pins σ Q) X.xe s
def UnR (X : Cx) (f : Value → Sem Value) (r : V → Hp → VK → Prop) : Prop :=
  ∀ (pins : List (Addr × Obj)) (s : Shared) (σ : St) (H : Hp) (x : V) (v : Value) (Q : VK), Inv X pins σ H s → RelV x v → r x H Q →
    wpAny (model X.prog X.w) X.A (f v) (EP X pins σ Q) X.xe s
def CallR (X : Cx) (f : Value) (r : List V → Hp → VK → Prop) : Prop :=
  ∀ (pins : List (Addr × Obj)) (s : Shared) (σ : St) (H : Hp) (xs : List V) (us : List Value) (Q : VK), Inv X pins σ H s → Vals xs us → r xs H Q →
    wpAny (model X.prog X.w) X.A (call f us) (EP X pins σ Q) X.xe s
def tOp (r : R2) (ta tb : TE) : TE := fun σ H Q => ta σ H fun x H1 => tb σ H1 fun y H2 => r x y H2 Q
def tUn (r : V → Hp → VK → Prop) (ta : TE) : TE := fun σ H Q => ta σ H fun x H1 => r x H1 Q
def rI (C : Int → Int → Prop) (g : Int → Int → V) : R2 := fun x y H Q => ∃ i j, x = .int i ∧ y = .int j ∧ C i j ∧ Q (g i j) H
def rI0 (g : Int → Int → V) : R2 := fun x y H Q => ∃ i j, x = .int i ∧ y = .int j ∧ Q (g i j) H
def rU (g : Int → V) : V → Hp → VK → Prop := fun x H Q => ∃ i, x = .int i ∧ Q (g i) H
section
variable {X : Cx} {a b c : Expr} {ta tb tc : TE} {pos : Pos}
theorem binT (ha : PE X a ta) (hb : PE X b tb) {pins : List (Addr × Obj)} {s : Shared} {σ : St} {H : Hp} {R : V → V → Hp → Prop} (I : Inv X pins σ H s)
    (h : ta σ H fun x H1 => tb σ H1 fun y H2 => R x y H2) {Q : Value → Shared → Prop} {f : Value → Value → Sem Value}
    (hf : ∀ v u s2 x y H2, Inv X pins σ H2 s2 → RelV x v → RelV y u → R x y H2 → wpAny (model X.prog X.w) X.A (f v u) Q X.xe s2) :
    wpAny (model X.prog X.w) X.A (eval a X.env) (fun v s₁ => wpAny (model X.prog X.w) X.A (eval b X.env) (fun u s₂ => wpAny (model X.prog X.w) X.A (f v u) Q X.xe s₂) X.xe s₁) X.xe s := by
  refine thn (ha pins s σ H _ I h) fun v s1 ⟨x, H1, I1, r1, q1⟩ => ?_
  refine thn (hb pins s1 σ H1 _ I1 q1) fun u s2 ⟨y, H2, I2, r2, q2⟩ => ?_
  exact hf v u s2 x y H2 I2 r1 r2 q2
theorem pe_op {op : Operator} {r : R2} (ho : OpR X (binaryOp op) r) (ha : PE X a ta) (hb : PE X b tb) : PE X (.BinOp a op b pos) (tOp r ta tb) := by
  intro pins s σ H Q I h
  exact wpAny_BinOp (binT ha hb I h fun v u s2 x y H2 I2 rx ry q => ho pins s2 σ H2 x y v u Q I2 rx ry q)
theorem pe_un {op : UnaryOp} {r : V → Hp → VK → Prop} (ho : UnR X (unaryOp op) r) (ha : PE X a ta) : PE X (.UnaryOp op a pos) (tUn r ta) := by
  intro pins s σ H Q I h
  exact UnaryOp_ (thn (ha pins s σ H _ I h) fun v s1 ⟨x, H1, I1, r1, q1⟩ => ho pins s1 σ H1 x v Q I1 r1 q1)
theorem opI {f : Value → Value → Sem Value} {C : Int → Int → Prop} {g : Int → Int → Int}
    (rule : ∀ (i j : Int) (t u : Tok) (s : Shared) (Q : Value → Shared → Prop) (E : Value → Shared → Prop), C i j → Q (.int (g i j) s.toks) { s with toks := s.toks + 1 } → wpAny (model X.prog X.w) X.A (f (.int i t) (.int j u)) Q E s) :
    OpR X f (rI C fun i j => .int (g i j)) := by
  intro pins s σ H x y v u Q I rx ry h
  obtain ⟨i, j, rfl, rfl, hc, q⟩ := h
  obtain ⟨t, rfl⟩ := rx
  obtain ⟨t', rfl⟩ := ry
  exact rule i j t t' s _ _ hc ⟨.int (g i j), H, I.tok _, ⟨_, rfl⟩, q⟩
theorem opI0 {f : Value → Value → Sem Value} {g : Int → Int → Int}
    (rule : ∀ (i j : Int) (t u : Tok) (s : Shared) (Q : Value → Shared → Prop) (E : Value → Shared → Prop), Q (.int (g i j) s.toks) { s with toks := s.toks + 1 } → wpAny (model X.prog X.w) X.A (f (.int i t) (.int j u)) Q E s) :
    OpR X f (rI0 fun i j => .int (g i j)) := by
  intro pins s σ H x y v u Q I rx ry h
  obtain ⟨i, j, rfl, rfl, q⟩ := h
  obtain ⟨t, rfl⟩ := rx
  obtain ⟨t', rfl⟩ := ry
  exact rule i j t t' s _ _ ⟨.int (g i j), H, I.tok _, ⟨_, rfl⟩, q⟩
theorem opB0 {f : Value → Value → Sem Value} {g : Int → Int → Bool}
    (rule : ∀ (i j : Int) (t u : Tok) (s : Shared) (Q : Value → Shared → Prop) (E : Value → Shared → Prop), Q (.bool (g i j)) s → wpAny (model X.prog X.w) X.A (f (.int i t) (.int j u)) Q E s) :
    OpR X f (rI0 fun i j => .bl (g i j)) := by
  intro pins s σ H x y v u Q I rx ry h
  obtain ⟨i, j, rfl, rfl, q⟩ := h
  obtain ⟨t, rfl⟩ := rx
  obtain ⟨t', rfl⟩ := ry
  exact rule i j t t' s _ _ ⟨.bl (g i j), H, I, rfl, q⟩
def CDiv (i j : Int) : Prop := 0 < j ∧ j < 1073741824
def CMul (i j : Int) : Prop := (-(2 ^ 64) < i ∧ i < 2 ^ 64) ∨ (-(2 ^ 64) < j ∧ j < 2 ^ 64)
theorem CMul.ok {i j : Int} (h : CMul i j) : IntMulOk i j := by
  rcases h with ⟨h1, h2⟩ | ⟨h1, h2⟩
  · exact .of_left (intBits_le_64 h1 h2)
  · exact .of_right (intBits_le_64 h1 h2)
theorem op_add : OpR X (binaryOp .Add) (rI0 fun i j => .int (i + j)) := opI0 fun _ _ _ _ _ _ _ q => add_int q
theorem op_sub : OpR X (binaryOp .Sub) (rI0 fun i j => .int (i - j)) := opI0 fun _ _ _ _ _ _ _ q => sub_int q
theorem op_mul : OpR X (binaryOp .Mult) (rI CMul fun i j => .int (i * j)) := opI fun _ _ _ _ _ _ _ hc q => mul_int q hc.ok
theorem op_fdiv : OpR X (binaryOp .FloorDiv) (rI CDiv fun i j => .int (i / j)) := opI fun i j _ _ _ _ _ hc q => by
  have h1 : (0 : Int) < j := hc.1
  have h2 : j < 1073741824 := hc.2
  exact floordiv_int (by trivial) (by rw [Int.fdiv_eq_ediv_of_nonneg i (by trivial)]; exact q) (.inl (PyProof.noPylong_small (by trivial)))
theorem op_mod : OpR X (binaryOp .Mod) (rI (fun _ j => 0 < j) fun i j => .int (i % j)) := opI fun i j _ _ _ _ _ hc q => by
  have h1 : (0 : Int) < j := hc
  exact mod_int' (by trivial) (by rw [Int.fmod_eq_emod_of_nonneg i (by trivial)]; exact q)
theorem unI {f : Value → Sem Value} {g : Int → Int}
    (rule : ∀ (i : Int) (t : Tok) (s : Shared) (Q : Value → Shared → Prop) (E : Value → Shared → Prop), Q (.int (g i) s.toks) { s with toks := s.toks + 1 } → wpAny (model X.prog X.w) X.A (f (.int i t)) Q E s) :
    UnR X f (rU fun i => .int (g i)) := by
  intro pins s σ H x v Q I rx h
  obtain ⟨i, rfl, q⟩ := h
  obtain ⟨t, rfl⟩ := rx
  exact rule i t s _ _ ⟨.int (g i), H, I.tok _, ⟨_, rfl⟩, q⟩
theorem un_neg : UnR X (unaryOp .USub) (rU fun i => .int (-i)) := unI fun _ _ _ _ _ q => neg_int q
end
def scal : V → V → Bool
  | .non, .non => true | .non, .int _ => true | .int _, .non => true | .non, .bl _ => true | .bl _, .non => true | .non, .str _ => true | .str _, .non => true
  | .int _, .int _ => true | .bl _, .bl _ => true | .str _, .str _ => true | .byt _, .byt _ => true
  | .int _, .str _ => true | .str _, .int _ => true | .bl _, .str _ => true | .str _, .bl _ => true
  | _, _ => false
def rEq : R2 := fun x y H Q => scal x y = true ∧ Q (.bl (decide (x = y))) H
def rNe : R2 := fun x y H Q => scal x y = true ∧ Q (.bl (!decide (x = y))) H
theorem dec_int {i j : Int} : decide (V.int i = V.int j) = (i == j) := by
  rw [Bool.eq_iff_iff]
  simp
theorem dec_bl {i j : Bool} : decide (V.bl i = V.bl j) = (i == j) := by
  rw [Bool.eq_iff_iff]
  simp
theorem dec_str {i j : Str} : decide (V.str i = V.str j) = (i == j) := by
  rw [Bool.eq_iff_iff]
  simp
theorem dec_byt {i j : Array UInt8} : decide (V.byt i = V.byt j) = (i.toList == j.toList) := by
  rw [Bool.eq_iff_iff]
  cases i
  cases j
  simp
section
variable {X : Cx} {a b c : Expr} {ta tb tc : TE} {pos : Pos}
theorem fin_bl {pins : List (Addr × Obj)} {σ : St} {H : Hp} {s : Shared} {Q : VK} {k k' : Bool} (I : Inv X pins σ H s) (q : Q (.bl k) H) (e : k = k') : EP X pins σ Q (.bool k') s := by
  subst e
  exact ⟨.bl k, H, I, rfl, q⟩
theorem op_eq : OpR X (compareOp .Eq) rEq := by
  intro pins s σ H x y v u Q I rx ry h
  obtain ⟨hs, q⟩ := h
  cases x with
  | non =>
    cases rx
    cases y with
    | non => cases ry; exact PySem.EqNone.eq_none_none (fin_bl I q (by simp))
    | bl j => cases ry; exact PySem.EqNone.eq_none_bool (fin_bl I q (by simp))
    | int j => obtain ⟨t', rfl⟩ := ry; exact PySem.EqNone.eq_none_int (fin_bl I q (by simp))
    | str j => obtain ⟨t', rfl⟩ := ry; exact PySem.EqNone.eq_none_str (fin_bl I q (by simp))
    | _ => exact absurd (show false = true from hs) Bool.false_ne_true
  | bl i =>
    cases rx
    cases y with
    | non => cases ry; exact PySem.EqNone.eq_bool_none (fin_bl I q (by simp))
    | bl j => cases ry; exact eq_bool (fin_bl I q dec_bl)
    | str j => obtain ⟨t', rfl⟩ := ry; exact PySem.EqMixed.eq_bool_str (fin_bl I q (by simp))
    | _ => exact absurd (show false = true from hs) Bool.false_ne_true
  | int i =>
    obtain ⟨t, rfl⟩ := rx
    cases y with
    | non => cases ry; exact PySem.EqNone.eq_int_none (fin_bl I q (by simp))
    | int j => obtain ⟨t', rfl⟩ := ry; exact eq_int (fin_bl I q dec_int)
    | str j => obtain ⟨t', rfl⟩ := ry; exact PySem.EqMixed.eq_int_str (fin_bl I q (by simp))
    | _ => exact absurd (show false = true from hs) Bool.false_ne_true
  | str i =>
    obtain ⟨t, rfl⟩ := rx
    cases y with
    | non => cases ry; exact PySem.EqNone.eq_str_none (fin_bl I q (by simp))
    | bl j => cases ry; exact PySem.EqMixed.eq_str_bool (fin_bl I q (by simp))
    | int j => obtain ⟨t', rfl⟩ := ry; exact PySem.EqMixed.eq_str_int (fin_bl I q (by simp))
    | str j => obtain ⟨t', rfl⟩ := ry; exact eq_str (fin_bl I q dec_str)
    | _ => exact absurd (show false = true from hs) Bool.false_ne_true
  | byt i =>
    obtain ⟨t, rfl⟩ := rx
    cases y with
    | byt j => obtain ⟨t', rfl⟩ := ry; exact PySem.W.eq_bytes (fin_bl I q dec_byt)
    | _ => exact absurd (show false = true from hs) Bool.false_ne_true
  | _ => cases y <;> exact absurd (show false = true from hs) Bool.false_ne_true
theorem op_ne : OpR X (compareOp .NotEq) rNe := by
  intro pins s σ H x y v u Q I rx ry h
  obtain ⟨hs, q⟩ := h
  cases x with
  | non =>
    cases rx
    cases y with
    | non => cases ry; exact PySem.EqNone.ne_none_none (fin_bl I q (by simp))
    | bl j => cases ry; exact PySem.EqNone.ne_none_bool (fin_bl I q (by simp))
    | int j => obtain ⟨t', rfl⟩ := ry; exact PySem.EqNone.ne_none_int (fin_bl I q (by simp))
    | str j => obtain ⟨t', rfl⟩ := ry; exact PySem.EqNone.ne_none_str (fin_bl I q (by simp))
    | _ => exact absurd (show false = true from hs) Bool.false_ne_true
  | bl i =>
    cases rx
    cases y with
    | non => cases ry; exact PySem.EqNone.ne_bool_none (fin_bl I q (by simp))
    | bl j => cases ry; exact ne_bool (fin_bl I q (congrArg not dec_bl))
    | str j => obtain ⟨t', rfl⟩ := ry; exact PySem.EqMixed.ne_bool_str (fin_bl I q (by simp))
    | _ => exact absurd (show false = true from hs) Bool.false_ne_true
  | int i =>
    obtain ⟨t, rfl⟩ := rx
    cases y with
    | non => cases ry; exact PySem.EqNone.ne_int_none (fin_bl I q (by simp))
    | int j => obtain ⟨t', rfl⟩ := ry; exact ne_int (fin_bl I q (congrArg not dec_int))
    | str j => obtain ⟨t', rfl⟩ := ry; exact PySem.EqMixed.ne_int_str (fin_bl I q (by simp))
    | _ => exact absurd (show false = true from hs) Bool.false_ne_true
  | str i =>
    obtain ⟨t, rfl⟩ := rx
    cases y with
    | non => cases ry; exact PySem.EqNone.ne_str_none (fin_bl I q (by simp))
    | bl j => cases ry; exact PySem.EqMixed.ne_str_bool (fin_bl I q (by simp))
    | int j => obtain ⟨t', rfl⟩ := ry; exact PySem.EqMixed.ne_str_int (fin_bl I q (by simp))
    | str j => obtain ⟨t', rfl⟩ := ry; exact ne_str (fin_bl I q (congrArg not dec_str))
    | _ => exact absurd (show false = true from hs) Bool.false_ne_true
  | byt i =>
    obtain ⟨t, rfl⟩ := rx
    cases y with
    | byt j => obtain ⟨t', rfl⟩ := ry; exact PySem.W.ne_bytes (fin_bl I q (congrArg not dec_byt))
    | _ => exact absurd (show false = true from hs) Bool.false_ne_true
  | _ => cases y <;> exact absurd (show false = true from hs) Bool.false_ne_true
theorem op_lt : OpR X (compareOp .Lt) (rI0 fun i j => .bl (decide (i < j))) := opB0 fun _ _ _ _ _ _ _ q => lt_int q
theorem op_le : OpR X (compareOp .LtE) (rI0 fun i j => .bl (decide (i ≤ j))) := opB0 fun _ _ _ _ _ _ _ q => le_int q
theorem op_gt : OpR X (compareOp .Gt) (rI0 fun i j => .bl (decide (j < i))) := opB0 fun _ _ _ _ _ _ _ q => gt_int q
theorem op_isN : OpR X (compareOp .Is) (fun x y H Q => y = .non ∧ Q (.bl (decide (x = .non))) H) := by
  intro pins s σ H x y v u Q I rx ry h
  obtain ⟨rfl, q⟩ := h
  cases ry
  refine is_none_gen (fin_bl I q ?_)
  cases x <;> first
    | (cases rx; rfl)
    | (obtain ⟨t, rfl⟩ := rx; rfl)
theorem op_notN : OpR X (compareOp .IsNot) (fun x y H Q => y = .non ∧ Q (.bl (!decide (x = .non))) H) := by
  intro pins s σ H x y v u Q I rx ry h
  obtain ⟨rfl, q⟩ := h
  cases ry
  refine isnot_none_gen (fin_bl I q ?_)
  cases x <;> first
    | (cases rx; rfl)
    | (obtain ⟨t, rfl⟩ := rx; rfl)
theorem nomark (b : Expr) {op : CmpOp} (h : op ≠ .In := by decide) (h2 : op ≠ .NotIn := by decide) : behindInMarks op b = false := by
  have e1 : (op == CmpOp.In) = false := by cases op <;> first | rfl | exact absurd rfl h
  have e2 : (op == CmpOp.NotIn) = false := by cases op <;> first | rfl | exact absurd rfl h2
  cases b <;> simp [behindInMarks, e1, e2]
theorem pe_cmpR {op : CmpOp} {r : R2} (ho : OpR X (compareOp op) r) (ha : PE X a ta) (hb : PE X b tb) (hm : behindInMarks op b = false) : PE X (.Compare a [op] [b] pos) (tOp r ta tb) := by
  intro pins s σ H Q I h
  exact wpAny_Compare1 (binT ha hb I h fun v u s2 x y H2 I2 rx ry q => ho pins s2 σ H2 x y v u Q I2 rx ry q) hm
def tTest (t : TE) : TT := fun σ H Q => t σ H fun x H' => ∃ k, x = .bl k ∧ Q k H'
theorem pt_cmpR {op : CmpOp} {r : R2} (ho : OpR X (compareOp op) r) (ha : PE X a ta) (hb : PE X b tb) (hm : behindInMarks op b = false) : PT X (.Compare a [op] [b] pos) (tTest (tOp r ta tb)) := by
  intro pins s σ H Q I h
  refine wpAny_isTrue_Compare1 (thn (ha pins s σ H _ I h) fun v s1 ⟨x, H1, I1, r1, q1⟩ => thn (hb pins s1 σ H1 _ I1 q1) fun u s2 ⟨y, H2, I2, r2, q2⟩ =>
    thn (ho pins s2 σ H2 x y v u _ I2 r1 r2 q2) fun c s3 ⟨z, H3, I3, r3, k, e, q3⟩ => ?_) hm
  subst e
  cases r3
  exact wpAny_truthy_bool ⟨H3, I3, q3⟩
def tChain (r r' : R2) (ta tb tc : TE) : TE := fun σ H Q => ta σ H fun x H1 => tb σ H1 fun y H2 => r x y H2 fun z H3 => ∃ k, z = .bl k ∧
  (if k = true then tc σ H3 fun w' H4 => r' y w' H4 Q else Q (.bl false) H3)
theorem pe_chain {op op' : CmpOp} {r r' : R2} (ho : OpR X (compareOp op) r) (ho' : OpR X (compareOp op') r') (ha : PE X a ta) (hb : PE X b tb) (hc : PE X c tc)
    (hm : lastMarks [op, op'] [b, c] = false := by with_unfolding_all rfl) : PE X (.Compare a [op, op'] [b, c] pos) (tChain r r' ta tb tc) := by
  intro pins s σ H Q I h
  refine Compare_chain (thn (ha pins s σ H _ I h) fun v s1 ⟨x, H1, I1, r1, q1⟩ => chain_link (thn (hb pins s1 σ H1 _ I1 q1) fun u s2 ⟨y, H2, I2, r2, q2⟩ =>
    thn (ho pins s2 σ H2 x y v u _ I2 r1 r2 q2) fun d s3 ⟨z, H3, I3, r3, k, e, q3⟩ => ?_)) hm
  subst e
  cases r3
  refine wpAny_truthy_bool ?_
  cases k with
  | false => exact ite_ff ⟨.bl false, H3, I3, rfl, q3⟩
  | true => exact ite_tt (chain_last (thn (hc pins s3 σ H3 _ I3 q3) fun w' s4 ⟨z', H4, I4, r4, q4⟩ => ho' pins s4 σ H4 y z' u w' Q I4 r2 r4 q4))
theorem pt_chain {op op' : CmpOp} {r r' : R2} (ho : OpR X (compareOp op) r) (ho' : OpR X (compareOp op') r') (ha : PE X a ta) (hb : PE X b tb) (hc : PE X c tc)
    (hm : lastMarks [op, op'] [b, c] = false := by with_unfolding_all rfl) : PT X (.Compare a [op, op'] [b, c] pos) (tTest (tChain r r' ta tb tc)) := by
  intro pins s σ H Q I h
  refine isTrue_chain (thn (ha pins s σ H _ I h) fun v s1 ⟨x, H1, I1, r1, q1⟩ => test_link (thn (hb pins s1 σ H1 _ I1 q1) fun u s2 ⟨y, H2, I2, r2, q2⟩ =>
    thn (ho pins s2 σ H2 x y v u _ I2 r1 r2 q2) fun d s3 ⟨z, H3, I3, r3, k, e, q3⟩ => ?_)) hm
  subst e
  cases r3
  refine wpAny_truthy_bool ?_
  cases k with
  | false =>
    obtain ⟨k', e', q'⟩ := q3
    cases e'
    exact ite_ff ⟨H3, I3, q'⟩
  | true =>
    refine ite_tt (test_last (thn (hc pins s3 σ H3 _ I3 q3) fun w' s4 ⟨z', H4, I4, r4, q4⟩ => thn (ho' pins s4 σ H4 y z' u w' _ I4 r2 r4 q4) fun d' s5 ⟨z2, H5, I5, r5, k2, e2, q5⟩ => ?_))
    subst e2
    cases r5
    exact wpAny_truthy_bool ⟨H5, I5, q5⟩
theorem line63 : (sizeLine : Nat) < 2 ^ 63 := by rw [sizeLine_eq]; decide
theorem vals1 {x : V} {us : List Value} (r : Vals [x] us) : ∃ u, us = [u] ∧ RelV x u := by
  cases r with
  | cons r1 r2 => cases r2; exact ⟨_, rfl, r1⟩
theorem vals2 {x y : V} {us : List Value} (r : Vals [x, y] us) : ∃ u w', us = [u, w'] ∧ RelV x u ∧ RelV y w' := by
  cases r with
  | cons r1 r2 =>
    cases r2 with
    | cons r3 r4 => cases r4; exact ⟨_, _, rfl, r1, r3⟩
theorem call_abs : CallR X (.builtin "abs") (fun xs H Q => ∃ i, xs = [.int i] ∧ Q (.int (if i < 0 then -i else i)) H) := by
  intro pins s σ H xs us Q I r h
  obtain ⟨i, rfl, q⟩ := h
  obtain ⟨u, rfl, t, rfl⟩ := vals1 r
  exact call_abs_int fun u tk => ⟨.int (if i < 0 then -i else i), H, I.tok _, ⟨_, rfl⟩, q⟩
theorem call_max2 (hc : X.calm = true) : CallR X (.builtin "max") (fun xs H Q => ∃ i j, xs = [.int i, .int j] ∧ Q (.int (if j > i then j else i)) H) := by
  intro pins s σ H xs us Q I r h
  obtain ⟨i, j, rfl, q⟩ := h
  obtain ⟨u, w', rfl, ⟨t, rfl⟩, ⟨t', rfl⟩⟩ := vals2 r
  refine max_two_ints (I.ok.hd hc) fun h' tk k => ⟨_, H, I.kept k, ?_, q⟩
  by_cases hj : j > i
  · rw [if_pos hj, if_pos hj]; exact ⟨_, rfl⟩
  · rw [if_neg hj, if_neg hj]; exact ⟨_, rfl⟩
theorem call_min2 (hc : X.calm = true) : CallR X (.builtin "min") (fun xs H Q => ∃ i j, xs = [.int i, .int j] ∧ Q (.int (if j < i then j else i)) H) := by
  intro pins s σ H xs us Q I r h
  obtain ⟨i, j, rfl, q⟩ := h
  obtain ⟨u, w', rfl, ⟨t, rfl⟩, ⟨t', rfl⟩⟩ := vals2 r
  refine min_two_ints (I.ok.hd hc) fun h' tk k => ⟨_, H, I.kept k, ?_, q⟩
  by_cases hj : j < i
  · rw [if_pos hj, if_pos hj]; exact ⟨_, rfl⟩
  · rw [if_neg hj, if_neg hj]; exact ⟨_, rfl⟩
end
end L2
namespace L2
open PySem PySem.Spec PyProof.Rows
structure ObjM (h : Heap) (x dx C : Addr) (mA : Str → Option Value) : Prop where
  obj : h.get? x = some (PySem.W.instObj C dx)
  ns : h.Ns1 dx mA
  ne : dx ≠ x
section
variable {prog : Program} {w : World} {A : Around} {E : Value → Shared → Prop} {s : Shared} {K : PySem.W.Frag} {x dx C f : Addr} {mA : Str → Option Value} {name : Str} {v : Value}
end
section
variable {P : Program} {w : World} {H H' : Hp} {h h' : Heap} {a C dx : Addr} {fs fs' : List (Str × V)}
end
structure Cls (K : PySem.W.Frag) (C : Addr) : Prop where
  pg : PySem.W.plainGet K C Str.empty = true
  hd : PySem.W.hasDictIn K C = true
  po : PySem.W.plainOver K C = true
  sa : PySem.W.findIn K (.ref C) "__setattr__" = some (some (.builtin "object.__setattr__"))
structure Con (K : PySem.W.Frag) (C : Addr) (f : Str) (v : V) (u : Value) : Prop where
  at_ : PySem.W.findIn K (.ref C) f = some (some u)
  rel : RelV v u
  get : PySem.W.specialIn K u "__get__" = some none
  cp : PySem.W.copiedNames.contains f = false
structure Meth (K : PySem.W.Frag) (C : Addr) (m : Str) (f : Addr) : Prop where
  at_ : PySem.W.findIn K (.ref C) m = some (some (.ref f))
  fn : PySem.W.isFn K (.ref f) = true
  kp : PySem.W.keepIn K (.ref f) = true
section
variable {X : Cx} {pins : List (Addr × Obj)} {σ : St} {H : Hp} {s : Shared} {a C dx : Addr} {fs : List (Str × V)} {f : Str} {v : V} {A : Around} {E : Value → Shared → Prop}
end
section
variable {X : Cx} {o e value : Expr} {f : Str} {pos pos' tpos : Pos} {ta tv : TE}
end
section
variable {X : Cx} {pins : List (Addr × Obj)} {σ : St} {H : Hp} {s : Shared} {A : Around} {E : Value → Shared → Prop} {Q : Value → Shared → Prop} {c : Value} {b : Bool}
inductive TyOf (K : PySem.W.Frag) (H : Hp) : V → Value → Prop where
  | non : TyOf K H .non (.type "NoneType")
  | bl (x : Bool) : TyOf K H (.bl x) (.type "bool")
  | int (i : Int) : TyOf K H (.int i) (.type "int")
  | str (x : Str) : TyOf K H (.str x) (.type "str")
  | flt (x : UInt64) : TyOf K H (.flt x) (.type "float")
  | lst {a : Addr} {xs : List V} (e : H a = some (.lst xs)) : TyOf K H (.ref a) (.type "list")
  | frz {a : Addr} {o : Obj} {xs : List V} (e : H a = some (.frz o (.lst xs))) : TyOf K H (.ref a) (.type "list")
  | tup {a : Addr} {xs : List V} (e : H a = some (.tup xs)) : TyOf K H (.ref a) (.type "tuple")
  | dK {a : Addr} {kvs : List (Key × V)} (e : H a = some (.dK kvs)) : TyOf K H (.ref a) (.type "dict")
  | dT {a : Addr} {kvs : List (List Key × V)} (e : H a = some (.dT kvs)) : TyOf K H (.ref a) (.type "dict")
  | ins {a C dx : Addr} {fs : List (Str × V)} (e : H a = some (.ins C dx fs)) (cl : Cls K C) (ha : PySem.W.findIn K (.ref C) "__class__" = some (some (.builtin "object.__class__")))
      (hn : PySem.W.specialIn K (.builtin "object.__class__") "__get__" = some (some (.builtin "getset_descriptor.__get__"))) (htk : PySem.W.takesIn K (.builtin "object.__class__") = some true)
      (hm : PySem.W.mroIn K C (.type "object") = some true) : TyOf K H (.ref a) (.ref C)
end
end L2
namespace L2
open PySem PySem.Spec PyProof.Rows
structure Room (k : Nat) (A : Around) : Prop where
  hd : A.handled = none
  dp : A.depth + 3 * k + 5 < recursionLimit
  un : A.units + 16 * k + 200 < cLine
theorem Room.mono {j k : Nat} {A : Around} (r : Room k A) (h : j ≤ k) : Room j A := ⟨r.hd, by have := r.dp; trivial, by have := r.un; trivial⟩
theorem Room.deeper {k : Nat} {A : Around} (r : Room (k + 1) A) (env : Env) : Room k (A.deeper env) :=
  ⟨r.hd, by have := r.dp; show A.depth + 1 + 3 * k + 5 < _; trivial, by have := r.un; show A.units + 3 + 16 * k + 200 < _; trivial⟩
theorem Room.depth {k : Nat} {A : Around} (r : Room k A) : A.depth < recursionLimit := by have := r.dp; trivial
def tNil : TA := fun _ H Q => Q [] H
def tCons (ta : TE) (tr : TA) : TA := fun σ H Q => ta σ H fun x H1 => tr σ H1 fun xs H2 => Q (x :: xs) H2
section
variable {X : Cx} {e : Expr} {es : List Expr} {te : TE} {t : TA} {pos : Pos}
theorem pa_nil : PA X [] tNil := fun _ _ _ _ H Q I h => Calls.spliced_nil ⟨[], H, I, .nil, h⟩
theorem pa_cons (ha : PE X e te) (hr : PA X es t) (hs : starEach (e :: es) X.env = (false, eval e X.env) :: starEach es X.env := by rfl) : PA X (e :: es) (tCons te t) := by
  intro pos pins s σ H Q I h
  rw [hs]
  show wpAny _ _ (spliced ((false, eval e X.env) :: backTo pos (starEach es X.env))) _ _ s
  refine Calls.spliced_cons (thn (ha pins s σ H _ I h) fun u s1 ⟨x, H1, I1, r1, q1⟩ => ?_)
  exact thn (hr pos pins s1 σ H1 _ I1 q1) fun us s2 ⟨xs, H2, I2, r2, q2⟩ => ⟨x :: xs, H2, I2, .cons r1 r2, q2⟩
def tTup (t : TA) : TE := fun σ H Q => t σ H fun xs H1 => xs.length ≤ sizeLine ∧ ∀ p, H1 p = none → Q (.ref p) (upd H1 p (.tup xs))
def tLst (t : TA) : TE := fun σ H Q => t σ H fun xs H1 => xs.length ≤ sizeLine ∧ ∀ p, H1 p = none → Q (.ref p) (upd H1 p (.lst xs))
theorem pe_tup {x1} (h : PA X es t) : PE X (.Tuple es x1 pos) (tTup t) := by
  intro pins s σ H Q I hq
  refine wpAny_Tuple_spliced (thn (h pos pins s σ H _ I hq) fun us s1 ⟨xs, H1, I1, r, z, q⟩ => ⟨by rw [← r.length]; exact z, ?_⟩)
  have hf : H1 s1.heap.objs.size = none := I1.hok.fresh (Nat.le_refl _)
  refine ⟨.ref s1.heap.objs.size, upd H1 s1.heap.objs.size (.tup xs), I1.laid (t' := s1.toks) (fun b u e => Heap.get?_push_of_some _ e) (Nat.le_refl _) ?_, rfl, q _ hf⟩
  exact ⟨z, us, r, ⟨_, Heap.get?_push_size _ rfl, rfl, _, rfl⟩⟩
theorem pe_lst (h : PA X es t) : PE X (.List es pos) (tLst t) := by
  intro pins s σ H Q I hq
  refine wpAny_List_spliced (thn (h pos pins s σ H _ I hq) fun us s1 ⟨xs, H1, I1, r, z, q⟩ => ⟨by rw [← r.length]; exact z, ?_⟩)
  have hf : H1 s1.heap.objs.size = none := I1.hok.fresh (Nat.le_refl _)
  refine ⟨.ref s1.heap.objs.size, upd H1 s1.heap.objs.size (.lst xs), I1.laid (t' := s1.toks) (fun b u e => Heap.get?_push_of_some _ e) (Nat.le_refl _) ?_, rfl, q _ hf⟩
  exact ⟨z, us, 0, r, Heap.get?_push_size _ rfl⟩
end
abbrev Sp := List V → Hp → VK → XK → Prop
abbrev CXT := List Env → Hp → Shared → XK → Value → Shared → Prop
structure Env0 (P : Program) (w : World) (K : PySem.W.Frag) (mg : Str → Option Value) (base : Heap) (A : Around) (outer : List Env) (s : Shared) (H : Hp) : Prop where
  frames : A.frames = some outer
  mod : Mod K mg base
  bs : ∀ b o, base.get? b = some o → s.heap.get? b = some o ∧ H b = none
  bsz : base.objs.size ≤ s.heap.objs.size
  funs : s.heap.FunFrames base outer
  frf : ∀ b ∈ frs outer, H b = none
  hok : HOk P w H s.heap
  bare : AllBare s.gens
def CE (outer : List Env) (P : Program) (w : World) (H : Hp) (s : Shared) (Q : VK) (u : Value) (s' : Shared) : Prop :=
  ∃ v H', s'.os = s.os ∧ AllBare s'.gens ∧ Un (frs outer) [] H H' s.heap s'.heap ∧ HOk P w H' s'.heap ∧ RelV v u ∧ Q v H'
def CR (CX : CXT) (outer : List Env) (P : Program) (w : World) (H : Hp) (s : Shared) (Q : VK) (E : XK) (r : Result) (s' : Shared) : Prop :=
  match r with
  | .ok (.ret u) => CE outer P w H s Q u s'
  | .ok _ => False
  | .error e => CX outer H s E e s'
structure FnOk (P : Program) (w : World) (K : PySem.W.Frag) (mg : Str → Option Value) (base : Heap) (CX : CXT) (k : Nat) (f : Addr) (fd : FuncData) (ps : List Str) (sp : Sp) : Prop where
  len : ∀ vs H Q E, sp vs H Q E → vs.length = ps.length
  run : ∀ (A : Around) (outer : List Env) (s : Shared) (H : Hp) (args : Args) (us : List Value) (vs : List V) (Q : VK) (E : XK), Room k A → Env0 P w K mg base A outer s H → BindsTo s fd args (ps.zip us) → Vals vs us → sp vs H Q E →
    codeAny (model P w) A (.call (.ref f) args) (CR CX outer P w H s Q E) s
section
variable {X : Cx} {pins : List (Addr × Obj)} {σ : St} {H : Hp} {s s' : Shared}
theorem Inv.env0 (I : Inv X pins σ H s) : Env0 X.prog X.w X.K X.mg X.base X.A X.stack s H :=
  ⟨I.ok.frames, I.ok.mod, I.bs, Nat.le_trans I.ok.bsz I.sz, I.stack, I.stkFree, I.hok, I.bare⟩
theorem Inv.after {Q : VK} {u : Value} (I : Inv X pins σ H s) (h : CE X.stack X.prog X.w H s Q u s') : EP X pins σ Q u s' := by
  obtain ⟨v, H', os, bare, un, hok, r, q⟩ := h
  obtain ⟨hh, g, d, t, os'⟩ := s'
  obtain rfl : os' = s.os := os
  exact ⟨v, H', I.call (h' := hh) (g' := g) (d' := d) (t' := t) (ch := []) un hok bare (fun b z => absurd z (by simp)), r, q⟩
end
def tCall (sp : Sp) (dvs : List V) (E : XK) (t : TA) : TE := fun σ H Q => t σ H fun vs H1 => sp (vs ++ dvs) H1 Q E
def Binds (K : PySem.W.Frag) (fd : FuncData) (ps : List Str) (ds : List Value) : Prop :=
  ∀ (s : Shared) (us : List Value), K.In s.heap → (us ++ ds).length = ps.length → BindsTo s fd ⟨us, []⟩ (ps.zip (us ++ ds))
theorem Binds.all {K : PySem.W.Frag} {fd : FuncData} {ps : List Str} (h : ∀ us : List Value, us.length = ps.length → bindArgs fd ⟨us, []⟩ = pure (ps.zip us)) : Binds K fd ps [] := fun s us _ hl => by
  rw [List.append_nil] at hl ⊢
  exact .of_eq (h us hl)
def Passes (CX : CXT) (X : Cx) (E : XK) : Prop := ∀ (pins : List (Addr × Obj)) (σ : St) (H : Hp) (s : Shared) (e : Value) (s' : Shared), Inv X pins σ H s → CX X.stack H s E e s' → X.xe e s'
section
variable {X : Cx} {CX : CXT} {k : Nat} {f C : Addr} {fd : FuncData} {ps : List Str} {sp : Sp} {dvs : List V} {ds : List Value} {E : XK} {x m : Str} {p pos apos : Pos} {e o : Expr} {es : List Expr} {ta : TE} {t : TA}
theorem run_fn {pins : List (Addr × Obj)} {σ : St} {H : Hp} {s : Shared} {Q : VK} {us : List Value} {vs : List V} (F : FnOk X.prog X.w X.K X.mg X.base CX k f fd ps sp) (hr : Room k X.A) (hb : Binds X.K fd ps ds) (hd : Vals dvs ds) (hx : Passes CX X E)
    (I : Inv X pins σ H s) (r : Vals vs us) (h : sp (vs ++ dvs) H Q E) : wpAny (model X.prog X.w) X.A (call (.ref f) us) (EP X pins σ Q) X.xe s := by
  have r2 : Vals (vs ++ dvs) (us ++ ds) := r.append hd
  have hl : (us ++ ds).length = ps.length := by rw [← r2.length]; exact F.len _ _ _ _ h
  refine wpAny_call (codeAny_mono (F.run X.A X.stack s H ⟨us, []⟩ (us ++ ds) (vs ++ dvs) Q E hr I.env0 (hb s us I.kIn hl) r2 h) fun r s' hq => ?_)
  cases r with
  | error e => exact hx pins σ H s e s' I hq
  | ok fl =>
    cases fl with
    | ret u => exact I.after hq
    | next => exact False.elim hq
    | brk => exact False.elim hq
    | cont => exact False.elim hq
theorem pe_call (F : FnOk X.prog X.w X.K X.mg X.base CX k f fd ps sp) (hr : Room k X.A) (hg : Gl X x) (hm : X.mg x = some (.ref f)) (hk : PySem.W.keepIn X.K (.ref f) = true) (hb : Binds X.K fd ps ds) (hd : Vals dvs ds) (hx : Passes CX X E)
    (ha : PA X (e :: es) t) (hdb : (x == ("__debug__" : Str)) = false := by decide) (he : starEach (e :: es) X.env = (false, eval e X.env) :: starEach es X.env := by rfl) (hpl : (backTo pos (starEach es X.env)).any (·.1) = false := by rfl) :
    PE X (.Call (.Name x p) (e :: es) [] pos) (tCall sp dvs E t) := by
  intro pins s σ H Q I h
  refine wpAny_Call_Name_kw (ld_glob I hg hm ?_ hdb)
  refine PySem.W.callWith_K (h₀ := X.base) I.ok.mod.kin hk (thn (ha pos pins s σ H _ I h) fun us s1 ⟨vs, H1, I1, r, q⟩ => ⟨I1.kIn, ?_⟩) he hpl
  exact run_fn F hr hb hd hx I1 r q
structure Mk (K : PySem.W.Frag) (C f : Addr) : Prop where
  makes : PySem.W.makesIn K C = true
  init : PySem.W.findIn K (.ref C) "__init__" = some (some (.ref f))
  fn : PySem.W.isFn K (.ref f) = true
  kp : PySem.W.keepIn K (.ref C) = true
end
section
variable {X : Cx} {CX : CXT} {k : Nat} {f C : Addr} {fd : FuncData} {ps ks : List Str} {sp : Sp} {E : XK} {x m : Str} {p pos apos kpos : Pos} {e o : Expr} {es : List Expr} {kws : List Keyword} {te ta : TE} {t tk : TA} {nm : Option Str}
structure KBinds (K : PySem.W.Frag) (fd : FuncData) (ps ks : List Str) (g : List Value → List Value → List Value) (gV : List V → List V → List V) : Prop where
  to : ∀ (s : Shared) (us ws : List Value), K.In s.heap → (g us ws).length = ps.length → BindsTo s fd ⟨us, ks.zip ws⟩ (ps.zip (g us ws))
  rel : ∀ {vs : List V} {us : List Value} {zs : List V} {ws : List Value}, Vals vs us → Vals zs ws → Vals (gV vs zs) (g us ws)
variable {g : List Value → List Value → List Value} {gV : List V → List V → List V}
end
structure FnScope (N P : List Str) (sc : Scope) : Prop where
  kind : sc.kind = .function
  co : sc.isCoroutine = false
  gen : sc.isGenerator = false
  nd : N.Nodup
  pre : N.take P.length = P
  par : ∀ x ∈ P, sc.names.lookup x = some .local ∨ sc.names.lookup x = some .cell
  nofree : ∀ y ∈ sc.names, y.2 ≠ .free
theorem bindL_out {kindOf : Str → Option NameKind} {x : Str} : ∀ {binds : List (Str × Value)} {m : Str → Option Value}, (∀ v, (x, v) ∉ binds) → bindL kindOf binds m x = m x
  | [], _, _ => rfl
  | (n, v) :: r, m, h => by
    unfold bindL
    rw [bindL_out fun w hw => h w (List.mem_cons_of_mem _ hw)]
    split
    · have : x ≠ n := by rintro rfl; exact h v List.mem_cons_self
      simp [this]
    · rfl
theorem bindC_out {kindOf : Str → Option NameKind} {x : Str} : ∀ {binds : List (Str × Value)} {m : Str → Option Value}, (∀ v, (x, v) ∉ binds) → bindC kindOf binds m x = m x
  | [], _, _ => rfl
  | (n, v) :: r, m, h => by
    unfold bindC
    rw [bindC_out fun w hw => h w (List.mem_cons_of_mem _ hw)]
    split
    · rfl
    · have : x ≠ n := by rintro rfl; exact h v List.mem_cons_self
      simp [this]
theorem bindL_get {kindOf : Str → Option NameKind} {x : Str} {v : Value} : ∀ {P : List Str} {vs : List Value} {i : Nat} {m : Str → Option Value}, P.Nodup → P[i]? = some x → vs[i]? = some v → kindOf x = some .local →
    bindL kindOf (P.zip vs) m x = some v
  | [], _, _, _, _, h, _, _ => by simp at h
  | _ :: _, [], _, _, _, _, h, _ => by simp at h
  | p :: P, w :: vs, 0, m, nd, h1, h2, hk => by
    simp at h1 h2; subst h1; subst h2
    show bindL kindOf ((p, w) :: P.zip vs) m p = _
    unfold bindL
    rw [bindL_out fun v hv => (List.nodup_cons.mp nd).1 (List.of_mem_zip hv).1, if_pos hk]
    simp
  | p :: P, w :: vs, i + 1, m, nd, h1, h2, hk => by
    show bindL kindOf ((p, w) :: P.zip vs) m x = _
    unfold bindL
    exact bindL_get (i := i) (List.nodup_cons.mp nd).2 (by simpa using h1) (by simpa using h2) hk
theorem bindC_get {kindOf : Str → Option NameKind} {x : Str} {v : Value} : ∀ {P : List Str} {vs : List Value} {i : Nat} {m : Str → Option Value}, P.Nodup → P[i]? = some x → vs[i]? = some v → kindOf x ≠ some .local →
    bindC kindOf (P.zip vs) m x = some v
  | [], _, _, _, _, h, _, _ => by simp at h
  | _ :: _, [], _, _, _, _, h, _ => by simp at h
  | p :: P, w :: vs, 0, m, nd, h1, h2, hk => by
    simp at h1 h2; subst h1; subst h2
    show bindC kindOf ((p, w) :: P.zip vs) m p = _
    unfold bindC
    rw [bindC_out fun v hv => (List.nodup_cons.mp nd).1 (List.of_mem_zip hv).1, if_neg hk]
    simp
  | p :: P, w :: vs, i + 1, m, nd, h1, h2, hk => by
    show bindC kindOf ((p, w) :: P.zip vs) m x = _
    unfold bindC
    exact bindC_get (i := i) (List.nodup_cons.mp nd).2 (by simpa using h1) (by simpa using h2) hk
def start (N : List Str) (vs : List V) : St := vs.map some ++ List.replicate (N.length - vs.length) none
def cxOf (CX : CXT) (P : Program) (w : World) (K : PySem.W.Frag) (mg : Str → Option Value) (base : Heap) (N : List Str) (qual : Str) (scope : Scope) (f : Addr) (cd : Value) (A : Around) (outer : List Env) (s : Shared) (H : Hp) (E : XK) : Cx where
  prog := P
  w := w
  K := K
  mg := mg
  base := base
  A := A.deeper (envOfC qual scope s.heap.objs.size f cd)
  N := N
  s_0 := s
  H_0 := H
  env := envOfC qual scope s.heap.objs.size f cd
  outer := outer
  stack := envOfC qual scope s.heap.objs.size f cd :: outer
  ex := []
  calm := true
  fn := fun _ => true
  pn := []
  xe := fun e s' => wpAny (model P w) (A.deeper (envOfC qual scope s.heap.objs.size f cd)) (leaving (envOfC qual scope s.heap.objs.size f cd) e) (fun _ s'' => CX outer H s E e s'') (fun e' s'' => CX outer H s E e' s'') s'
theorem cell_has {sc : Scope} {n : Nat} {x : Str} (h : sc.names.lookup x = some .cell) : ∃ c, (cellsFrom n sc.names []).lookup x = some c := by
  have q := PySem.W.cellsFrom_some sc.names n [] (.inl h)
  exact Option.isSome_iff_exists.mp q
theorem inv_start {CX : CXT} {P : Program} {w : World} {K : PySem.W.Frag} {mg : Str → Option Value} {base : Heap} {N ps : List Str} {qual : Str} {scope : Scope} {f : Addr} {cd : Value} {A : Around} {outer : List Env} {s s1 : Shared} {H : Hp} {E : XK} {us : List Value} {vs : List V}
    (S : FnScope N ps scope) (hd : A.handled = none) (e0 : Env0 P w K mg base A outer s H) (hl : vs.length = ps.length) (r : Vals vs us)
    (x : InCallC s s.heap.objs.size (bindL (envOfC qual scope s.heap.objs.size f cd).kindOf (ps.zip us) fun _ => none) (cellsFrom (s.heap.objs.size + 1) scope.names []) (bindC (envOfC qual scope s.heap.objs.size f cd).kindOf (ps.zip us) fun _ => none) s1) :
    Inv (cxOf CX P w K mg base N qual scope f cd A outer s H E) [] (start N vs) H s1 := by
  have hpl : ps.length ≤ N.length := by have := congrArg List.length S.pre; rw [List.length_take] at this; trivial
  obtain ⟨h1, tk, rfl, hk⟩ := x.done
  have noA : ∀ b : Addr, b ∉ (cxOf CX P w K mg base N qual scope f cd A outer s H E).ex := fun b z => absurd (show b ∈ ([] : List Addr) from z) (by simp)
  refine ⟨⟨e0.mod, S.kind, rfl, rfl, Nat.le_refl _, fun y z c h1 h2 => ?_, fun y hy => ?_, fun y c _ h => ?_, fun _ => hd, Around.frames_deeper e0.frames, .inr ⟨rfl, rfl⟩, fun b z => absurd z (noA b), e0.bs, e0.bsz, fun b _ _ => noA b, fun b z => absurd z (noA b), e0.funs, e0.frf⟩,
    rfl, e0.bare, Un.kept hk, ⟨_, x.toInCall.ns, fun i y v h1 h2 h3 => ?_⟩, fun y c h => ⟨_, x.cell y c h⟩, e0.hok.fresh (Nat.le_refl _), fun y c h => ?_, fun p hp => absurd (show p ∈ ([] : List (Addr × Obj)) from hp) (by simp), e0.hok.kept hk, ?_⟩
  · exact name_of_addr x.apart (PySem.mem_of_lookup h1) (PySem.mem_of_lookup h2)
  · have hy : scope.names.lookup y = some .cell ∨ scope.names.lookup y = some .free := hy
    rcases hy with hy | hy
    · exact cell_has hy
    · exact absurd rfl (S.nofree _ (PySem.mem_of_lookup hy))
  · exact Nat.le_of_lt (x.above y c (PySem.mem_of_lookup h))
  · have hi : i < vs.length := by
      unfold start at h2
      by_cases hi : i < vs.length
      · exact hi
      · rw [List.getElem?_append_right (by simpa using hi)] at h2
        rw [List.getElem?_replicate] at h2
        split at h2 <;> cases h2
    have ha : vs[i]? = some v := by
      unfold start at h2
      rw [List.getElem?_append_left (by simpa using hi), List.getElem?_map] at h2
      cases e : vs[i]? with
      | none => rw [e] at h2; cases h2
      | some a => rw [e] at h2; cases h2; rfl
    obtain ⟨u, hu, rv⟩ := r.get ha
    have hp : ps[i]? = some y := by
      rw [← S.pre, List.getElem?_take_of_lt (by trivial)]; exact h1
    have ndP : ps.Nodup := by rw [← S.pre]; exact S.nd.sublist (List.take_sublist _ _)
    refine ⟨u, rv, ?_⟩
    rcases S.par y (List.mem_of_getElem? hp) with k | k
    · exact .inl ⟨k, bindL_get ndP hp hu k⟩
    · obtain ⟨c, e⟩ := cell_has (n := s.heap.objs.size + 1) k
      refine .inr ⟨.inl k, c, e, ?_⟩
      have q := x.cell y c e
      rw [bindC_get ndP hp hu (by show scope.names.lookup y ≠ _; rw [k]; decide)] at q
      exact q
  · exact e0.hok.fresh (Nat.le_of_lt (x.above y c (PySem.mem_of_lookup h)))
  · unfold start
    show _ = N.length
    rw [List.length_append, List.length_map, List.length_replicate]
    trivial
theorem fn_of {CX : CXT} {P : Program} {w : World} {K : PySem.W.Frag} {mg : Str → Option Value} {base : Heap} {k : Nat} {f : Addr} {name qual : Str} {params : Arguments} {body : List Stmt} {scope : Scope} {dV kV doc pm cdv ct oc : Value} {an od : Option Addr}
    {osl : Array (Option Value)} {N ps : List Str} {sp : Sp} (lk : K.lookup f = some ⟨oc, od, .func (PySem.W.fnOf name qual params body scope dV kV doc pm an cdv ct), osl⟩) (hcd : PySem.W.codeIn K cdv qual = true) (S : FnScope N ps scope)
    (len : ∀ vs H Q E, sp vs H Q E → vs.length = ps.length)
    (hbody : ∀ (A : Around) (outer : List Env) (s : Shared) (H : Hp) (vs : List V) (Q : VK) (E : XK), Room k (A.deeper (envOfC qual scope s.heap.objs.size f cdv)) → sp vs H Q E →
      ∃ t, PSs (cxOf CX P w K mg base N qual scope f cdv A outer s H E) body t ∧ t { nx := fun _ H' => Q .non H', rt := Q } (start N vs) H) :
    FnOk P w K mg base CX (k + 1) f (PySem.W.fnOf name qual params body scope dV kV doc pm an cdv ct) ps sp := by
  refine ⟨len, fun A outer s H args us vs Q E hr e0 hb r hsp => ?_⟩
  have hl := len _ _ _ _ hsp
  have KX : K.In s.heap := e0.mod.kin.keeps fun b o e => (e0.bs b o e).1
  have lim : s.heap.NoLimit := e0.mod.nolimit.keeps fun b o e => (e0.bs b o e).1
  have hkind : ∀ y ∈ ps.zip us, scope.names.lookup y.1 = some .local ∨ (scope.names.lookup y.1 = some .cell ∧ ((cellsFrom (s.heap.objs.size + 1) scope.names []).lookup y.1).isSome = true) := fun ⟨n, v⟩ hy => by
    rcases S.par n (List.of_mem_zip hy).1 with q | q
    · exact .inl q
    · exact .inr ⟨q, PySem.W.cellsFrom_some _ _ _ (.inl q)⟩
  refine codeAny_call_function hr.depth (KX _ _ lk) rfl S.co S.gen rfl (PySem.W.codeRec_of KX hcd) (hb _ _ _ _ ?_)
  refine wpAny_newFunctionEnv_cells S.kind hkind fun env he s1 x => ?_
  subst he
  refine ⟨lim.keeps x.toInCall.keep, codeAny_func ?_⟩
  obtain ⟨t, ht, hq⟩ := hbody A outer s H vs Q E (hr.deeper _) hsp
  have I : Inv (cxOf CX P w K mg base N qual scope f cdv A outer s H E) [] (start N vs) H s1 := inv_start S hr.hd e0 hl r x
  refine wpAny_mono (ht [] s1 (start N vs) H _ I hq) (fun fl s' hs => ?_) fun e s' hs => hs
  have fin : ∀ {σ' : St} {H' : Hp} {v : V} {u : Value}, Inv (cxOf CX P w K mg base N qual scope f cdv A outer s H E) [] σ' H' s' → RelV v u → Q v H' → CE outer P w H s Q u s' :=
    fun {σ' H' v u} J rv q => ⟨v, H', J.os, J.bare, J.base, J.hok, rv, q⟩
  cases fl with
  | ret u =>
    obtain ⟨v, σ', H', J, rv, q⟩ := hs
    exact fin J rv q
  | next =>
    obtain ⟨σ', H', J, q⟩ := hs
    exact fin (v := V.non) (u := Value.none) J rfl q
  | brk =>
    obtain ⟨_, _, _, q⟩ := hs
    exact False.elim q
  | cont =>
    obtain ⟨_, _, _, q⟩ := hs
    exact False.elim q
end L2
namespace L2
open PySem PySem.Spec PyProof.Rows
section
variable {X : Cx} {x : Str} {p pos : Pos} {e : Expr} {es : List Expr} {t : TA} {id T : String} {r : List V → Hp → VK → Prop}
def tCB (r : List V → Hp → VK → Prop) (t : TA) : TE := fun σ H Q => t σ H fun vs H1 => r vs H1 Q
theorem pe_callB (hc : CallR X (.builtin id) r) (hg : Gl X x) (hm : X.mg x = none) (hv : bootBuiltins x = some (.builtin id)) (ha : PA X (e :: es) t) (hn : x ≠ "__name__" := by decide) (hdb : (x == ("__debug__" : Str)) = false := by decide)
    (he : starEach (e :: es) X.env = (false, eval e X.env) :: starEach es X.env := by rfl) (hpl : (backTo pos (starEach es X.env)).any (·.1) = false := by rfl) : PE X (.Call (.Name x p) (e :: es) [] pos) (tCB r t) := by
  intro pins s σ H Q I h
  refine wpAny_Call_Name_kw (ld_blt I hg hm hv ?_ hn hdb)
  exact PyProof.Rows.callWith_builtin1 (thn (ha pos pins s σ H _ I h) fun us s1 ⟨vs, H1, I1, r1, q1⟩ => hc pins s1 σ H1 vs us Q I1 r1 q1) he hpl
theorem pe_callTy (hc : CallR X (.type T) r) (hg : Gl X x) (hm : X.mg x = none) (hv : bootBuiltins x = some (.type T)) (ha : PA X (e :: es) t) (hn : x ≠ "__name__" := by decide) (hdb : (x == ("__debug__" : Str)) = false := by decide)
    (he : starEach (e :: es) X.env = (false, eval e X.env) :: starEach es X.env := by rfl) (hpl : (backTo pos (starEach es X.env)).any (·.1) = false := by rfl) : PE X (.Call (.Name x p) (e :: es) [] pos) (tCB r t) := by
  intro pins s σ H Q I h
  refine wpAny_Call_Name_kw (ld_blt I hg hm hv ?_ hn hdb)
  exact PyProof.Rows.callWith_type1 (thn (ha pos pins s σ H _ I h) fun us s1 ⟨vs, H1, I1, r1, q1⟩ => hc pins s1 σ H1 vs us Q I1 r1 q1) he hpl
end
end L2
namespace HT
open PySem PyProof.Rows
section
open PySem.SeqAt
open PySem.AutoSeq1 (wpAny_loadPart')
open PySem.MeetsSeq PySem.MeetsSeq2 PySem.MeetsSeq3
end
section
variable {prog : Program} {w : World} {A : Around} {E : Value → Shared → Prop} {s : Shared}
theorem cat_tup {t b : Addr} {vs ws : List Value} {Q : Value → Shared → Prop} (ht : IsTup s.heap t vs.toArray) (hb : IsTup s.heap b ws.toArray) (hv : vs ≠ [])
    (h1 : ws = [] → Q (.ref t) s) (h2 : ws ≠ [] → Q (.ref s.heap.objs.size) { s with heap := s.heap.push { cls := .type "tuple", data := .seq (vs ++ ws).toArray } })
    (hsz : vs.length + ws.length ≤ sizeLine) : wpAny (model prog w) A (binaryOp .Add (.ref t) (.ref b)) Q E s := by
  obtain ⟨⟨cls, dd, data, sl⟩, ho, hc, n, hd⟩ := id ht
  obtain ⟨⟨cls2, dd2, data2, sl2⟩, ho2, hc2, n2, hd2⟩ := id hb
  simp only at hc hd hc2 hd2
  subst hc hd hc2 hd2
  have e : vs.toArray ++ ws.toArray = (vs ++ ws).toArray := by simp
  by_cases hw : ws = []
  · exact concat_meets ⟨_, ho, rfl⟩ ⟨_, ho2, rfl⟩ noFill_tuple_add seq_tuple_add PySem.F.slot_tuple_add PySem.F.entry_tuple_add (PySem.F.args_tuple_add_2 _ _)
      (tuple_addW1 t b vs.toArray ws.toArray n n2 dd dd2 sl sl2 (by simpa using hv) (by simp [hw])) ⟨ho, ho2, h1 hw⟩
  · refine concat_meets ⟨_, ho, rfl⟩ ⟨_, ho2, rfl⟩ noFill_tuple_add seq_tuple_add PySem.F.slot_tuple_add PySem.F.entry_tuple_add (PySem.F.args_tuple_add_2 _ _)
      (tuple_addW2 t b vs.toArray ws.toArray n n2 dd dd2 sl sl2 (by simpa using hv) (by simpa using hw) (by rw [List.size_toArray, List.size_toArray]; exact hsz)) ⟨ho, ho2, ?_⟩
    rw [e]
    exact h2 hw
def sIx (n d : Nat) : Option Int → Nat
  | none => d
  | some v => if v < 0 then (v + (n : Int)).toNat else min v.toNat n
theorem sIx_nat (n d k : Nat) : sIx n d (some (k : Int)) = min k n := by
  show (if (k : Int) < 0 then ((k : Int) + (n : Int)).toNat else min (k : Int).toNat n) = min k n
  rw [if_neg (by trivial), Int.toNat_natCast]
theorem sIx_le (n d : Nat) (hd : d ≤ n) (o : Option Int) : sIx n d o ≤ n := by
  cases o with
  | none => exact hd
  | some v =>
    show (if v < 0 then (v + (n : Int)).toNat else min v.toNat n) ≤ n
    by_cases hv : v < 0
    · rw [if_pos hv]; trivial
    · rw [if_neg hv]; exact Nat.min_le_right _ _
theorem clip_eq (v : Int) (n d : Nat) : (if v < 0 then max (v + (n : Int)) 0 else min v (n : Int)) = ((sIx n d (some v) : Nat) : Int) := by
  show (if v < 0 then max (v + (n : Int)) 0 else min v (n : Int)) = (((if v < 0 then (v + (n : Int)).toNat else min v.toNat n) : Nat) : Int)
  by_cases hv : v < 0
  · simp only [if_pos hv]; trivial
  · simp only [if_neg hv]; trivial
theorem adjust_gen (lo hi : Option Int) (n : Nat) : Builtin.Slice.sliceAdjust lo hi 1 (n : Int) = (((sIx n 0 lo : Nat) : Int), ((sIx n n hi : Nat) : Int)) := by
  have h1 : ¬ ((1 : Int) < 0) := by trivial
  unfold Builtin.Slice.sliceAdjust
  simp only [h1, if_false]
  refine Prod.ext ?_ ?_
  · cases lo with
    | none => rfl
    | some v => exact clip_eq v n 0
  · cases hi with
    | none => rfl
    | some v => exact clip_eq v n n
theorem places_gen (i j : Nat) : Builtin.Slice.slicePlaces (i : Int) (j : Int) 1 = j - i := by
  unfold Builtin.Slice.slicePlaces
  have h1 : (1 : Int) > 0 := by trivial
  simp only [h1, if_true, Int.ediv_one]
  split <;> trivial
theorem slicePart_ {v : Value} {o : Option Int} {Q : Option Int → Shared → Prop} (p : IsPart v o) (h : Q o s) : wpAny (model prog w) A (Builtin.Slice.slicePartIndex v) Q E s := by
  cases p with
  | none => exact slicePart_none h
  | int i t => exact slicePart_int h
theorem sliceApplied_gen {sl : Addr} {vl vu : Value} {lo hi : Option Int} {n : Nat} {Q : Int × Int × Nat → Shared → Prop} (hs : s.heap.IsSliceOf sl vl vu .none) (pl : IsPart vl lo) (pu : IsPart vu hi)
    (h : Q (((sIx n 0 lo : Nat) : Int), 1, sIx n n hi - sIx n 0 lo) s) : wpAny (model prog w) A (Builtin.Slice.sliceApplied (.ref sl) (pure (n : Int))) Q E s := by
  obtain ⟨os, hos, hcs, hds⟩ := id hs
  unfold Builtin.Slice.sliceApplied Builtin.Slice.sliceFields
  refine wpAny_bind (wpAny_bind (wpAny_field hos hds (x := vl) rfl (wpAny_bind (wpAny_field hos hds (x := vu) rfl (wpAny_bind (wpAny_field hos hds (x := .none) rfl (wpAny_pure ?_)))))))
  refine wpAny_bind (slicePart_none ?_)
  show wpAny _ _ (if ((1 : Int) == 0) = true then _ else _) _ _ s
  rw [if_neg (by decide)]
  refine wpAny_bind (slicePart_ pl (wpAny_bind (slicePart_ pu (wpAny_bind (wpAny_pure ?_)))))
  show wpAny _ _ (match Builtin.Slice.sliceAdjust lo hi 1 (n : Int) with | (lo, hi) => pure (lo, (1 : Int), Builtin.Slice.slicePlaces lo hi 1)) _ _ s
  rw [adjust_gen lo hi n]
  show wpAny _ _ (pure (((sIx n 0 lo : Nat) : Int), (1 : Int), Builtin.Slice.slicePlaces ((sIx n 0 lo : Nat) : Int) ((sIx n n hi : Nat) : Int) 1)) _ _ s
  rw [places_gen]
  exact wpAny_pure h
theorem pick_gen (xs : Array Value) (i k : Nat) : ((List.range k).filterMap fun (m : Nat) => xs[((i : Int) + (m : Int) * 1).toNat]?).toArray = ((xs.toList.drop i).take k).toArray := by
  have e : (fun (m : Nat) => xs[((i : Int) + (m : Int) * 1).toNat]?) = fun m => xs[i + m]? := by
    funext m
    have : ((i : Int) + (m : Int) * 1).toNat = i + m := by trivial
    rw [this]
  rw [e]
  have := pick_run xs i k
  rw [List.filterMap_map] at this
  have e2 : ((fun x => xs[x]?) ∘ fun x => i + x) = fun m => xs[i + m]? := rfl
  rw [e2] at this
  rw [this]
theorem getItem_tuple_cut {t sl : Addr} {items : Array Value} {vl vu : Value} {lo hi : Option Int} {Q : Value → Shared → Prop} (ht : IsTup s.heap t items) (hs : s.heap.IsSliceOf sl vl vu .none) (pl : IsPart vl lo) (pu : IsPart vu hi)
    (hw : ¬ (sIx items.size 0 lo = 0 ∧ sIx items.size items.size hi = items.size))
    (h : Q (.ref s.heap.objs.size) { s with heap := s.heap.push { cls := .type "tuple", data := .seq ((items.toList.drop (sIx items.size 0 lo)).take (sIx items.size items.size hi - sIx items.size 0 lo)).toArray } })
    (hsz : items.size ≤ sizeLine) : wpAny (model prog w) A (getItem (.ref t) (.ref sl)) Q E s := by
  have htake : sizeOk (.seq ((items.toList.drop (sIx items.size 0 lo)).take (sIx items.size items.size hi - sIx items.size 0 lo)).toArray) := by
    show ((items.toList.drop (sIx items.size 0 lo)).take (sIx items.size items.size hi - sIx items.size 0 lo)).toArray.size ≤ sizeLine
    rw [List.size_toArray, List.length_take, List.length_drop, Array.length_toList]
    trivial
  have hj : sIx items.size items.size hi ≤ items.size := sIx_le _ _ (Nat.le_refl _) hi
  obtain ⟨os, hos, hcs, hds⟩ := id hs
  have hTs : s.TypeIs (.ref sl) "slice" := ⟨os, hos, hcs⟩
  unfold getItem
  try with_reducible refine wpAny_holding ?_
  first | refine wpAny_bind (wpAny_pure ?_) | skip
  refine wpAny_bind (wpAny_sequenceKey ht.typeIs (by decide) ?_)
  refine wpAny_bind (wpAny_callSpecial?_slot (name := Str.ofString "__getitem__") ht.typeIs PyProof.Rows.slot_tuple_getitem
    (wpAny_call_entry PyProof.Rows.slot_tuple_getitem ht.typeIs entry_tuple_getitem ?_ (args_tuple_getitem _ _)))
  show wpAny _ _ (Builtin.Tuple.tupleItemsOf (.ref t) >>= _) _ _ s
  refine wpAny_bind (tupleItemsOf_ ht ?_)
  refine wpAny_bind (wpAny_typeOf hTs ?_)
  rw [if_pos (by decide)]
  refine wpAny_bind (sliceApplied_gen hs pl pu ?_)
  have hno : ¬ ((((sIx items.size 0 lo : Nat) : Int) == 0 && (1 : Int) == 1 && (sIx items.size items.size hi - sIx items.size 0 lo) == items.size) = true) := by
    intro q
    rw [Bool.and_eq_true, Bool.and_eq_true] at q
    have q1 : ((sIx items.size 0 lo : Nat) : Int) = 0 := eq_of_beq q.1.1
    have q2 : sIx items.size items.size hi - sIx items.size 0 lo = items.size := eq_of_beq q.2
    exact hw ⟨by trivial, by trivial⟩
  show wpAny _ _ (if (((sIx items.size 0 lo : Nat) : Int) == 0 && (1 : Int) == 1 && (sIx items.size items.size hi - sIx items.size 0 lo) == items.size) = true then _ else _) _ _ s
  rw [if_neg hno, pick_gen]
  first
    | exact wpAny_bind (m := Builtin.Tuple.tupleExact _) (wpAny_newObj_type (wpAny_pure ⟨_, rfl, wpAny_pure h⟩) htake)
    | exact wpAny_bind (m := Builtin.Tuple.tupleExact _) (wpAny_newObj_type (wpAny_bind (wpAny_pure (wpAny_pure ⟨_, rfl, wpAny_pure h⟩))) htake)
    | exact wpAny_bind (wpAny_bind (m := Builtin.Tuple.tupleExact _) (wpAny_newObj_type (wpAny_pure (wpAny_pure ⟨_, rfl, wpAny_pure h⟩)) htake))
    | exact wpAny_bind (wpAny_bind (m := Builtin.Tuple.tupleExact _) (wpAny_newObj_type (wpAny_pure ⟨_, rfl, wpAny_pure h⟩) htake))
end
end HT
namespace L2
open PySem PySem.Spec PyProof.Rows
abbrev TO := St → Hp → (Option Int → Hp → Prop) → Prop
def PO (X : Cx) (e : Option Expr) (t : TO) : Prop :=
  ∀ (pins : List (Addr × Obj)) (s : Shared) (σ : St) (H : Hp) (Q : Option Int → Hp → Prop), Inv X pins σ H s → t σ H Q →
    wpAny (model X.prog X.w) X.A (evalPart e X.env) (fun u s' => ∃ o H', Inv X pins σ H' s' ∧ IsPart u o ∧ Q o H') X.xe s
def tPart (t : TE) : TO := fun σ H Q => t σ H fun x H1 => ∃ i, x = .int i ∧ Q (some i) H1
section
variable {X : Cx} {e : Expr} {te : TE} {lo hi : Option Expr} {tl th : TO} {pos p2 : Pos}
theorem po_some (h : PE X e te) : PO X (some e) (tPart te) := by
  intro pins s σ H Q I hw
  rw [evalPart_some]
  refine thn (h pins s σ H _ I hw) fun u s1 ⟨x, H1, I1, r1, q1⟩ => ?_
  obtain ⟨i, rfl, q⟩ := q1
  obtain ⟨t, rfl⟩ := r1
  exact ⟨some i, H1, I1, .int i t, q⟩
def SlR (X : Cx) (r : V → Option Int → Option Int → Hp → VK → Prop) : Prop :=
  ∀ (pins : List (Addr × Obj)) (s : Shared) (σ : St) (H : Hp) (x : V) (v vl vu : Value) (lo hi : Option Int) (sl : Addr) (Q : VK), Inv X pins σ H s → RelV x v → s.heap.IsSliceOf sl vl vu .none → IsPart vl lo → IsPart vu hi → r x lo hi H Q →
    ∃ T id, typeLookup (.type T) "__getitem__" = pure (some (.builtin id)) ∧ s.TypeIs v T ∧ wpAny (model X.prog X.w) X.A (getItem v (.ref sl)) (EP X pins σ Q) X.xe s
def tSl (r : V → Option Int → Option Int → Hp → VK → Prop) (te : TE) (tl th : TO) : TE := fun σ H Q => te σ H fun x H1 => tl σ H1 fun l H2 => th σ H2 fun u H3 => r x l u H3 Q
theorem pe_slice {r : V → Option Int → Option Int → Hp → VK → Prop} (hr : SlR X r) (he : PE X e te) (hl : PO X lo tl) (hu : PO X hi th) : PE X (.Subscript e (.Slice lo hi none p2) pos) (tSl r te tl th) := by
  intro pins s σ H Q I h
  refine Subscript_ (thn (he pins s σ H _ I h) fun v s1 ⟨x, H1, I1, r1, q1⟩ => ?_)
  refine wpAny_Slice (thn (hl pins s1 σ H1 _ I1 q1) fun vl s2 ⟨l, H2, I2, pl, q2⟩ => thn (hu pins s2 σ H2 _ I2 q2) fun vu s3 ⟨u, H3, I3, pu, q3⟩ => ?_)
  rw [evalPart_none]
  refine wpAny_pure ?_
  have I4 : Inv X pins σ H3 { s3 with heap := s3.heap.push { cls := .type "slice", data := .fields #[vl, vu, .none] } } := I3.kept (t' := s3.toks) fun b ob q => Heap.get?_push_of_some _ q
  obtain ⟨T, id, hT, ht, hg⟩ := hr pins { s3 with heap := s3.heap.push { cls := .type "slice", data := .fields #[vl, vu, .none] } } σ H3 x v vl vu l u s3.heap.objs.size Q I4 r1 (Heap.IsSliceOf.new ..) pl pu q3
  show wpAny (model X.prog X.w) X.A (subscriptTail e (.Slice lo hi none p2) v (.ref s3.heap.objs.size)) (EP X pins σ Q) X.xe { s3 with heap := s3.heap.push { cls := .type "slice", data := .fields #[vl, vu, .none] } }
  exact tail_any (ops := [.ref s3.heap.objs.size, v]) ht hT hg (by with_unfolding_all rfl)
def cutV (xs : List V) (lo hi : Option Int) : List V := (xs.drop (HT.sIx xs.length 0 lo)).take (HT.sIx xs.length xs.length hi - HT.sIx xs.length 0 lo)
theorem cutV_length (xs : List V) (lo hi : Option Int) : (cutV xs lo hi).length ≤ xs.length := by
  unfold cutV
  rw [List.length_take, List.length_drop]
  trivial
def rSlT (K : PySem.W.Frag) : V → Option Int → Option Int → Hp → VK → Prop := fun x lo hi H Q => ∃ a xs, x = .ref a ∧ SqT K H a xs ∧
  ¬ (HT.sIx xs.length 0 lo = 0 ∧ HT.sIx xs.length xs.length hi = xs.length) ∧ ∀ p, H p = none → Q (.ref p) (upd H p (.tup (cutV xs lo hi)))
theorem sl_tup : SlR X (rSlT X.K) := by
  intro pins s σ H x v vl vu lo hi sl Q I rx hs pl pu h
  obtain ⟨a, xs, rfl, hx, hw, q⟩ := h
  cases rx
  obtain ⟨its, r, ht, hz⟩ := I.tuple hx
  have hlen : its.toArray.size = xs.length := by rw [List.size_toArray]; exact r.length.symm
  refine ⟨"tuple", _, PyProof.Rows.slot_tuple_getitem.lookup, ht.typeIs, ?_⟩
  refine HT.getItem_tuple_cut ht hs pl pu (by rw [hlen]; exact hw) ?_ (by rw [hlen]; exact hz)
  rw [hlen]
  refine ⟨.ref s.heap.objs.size, _, I.laid (t' := s.toks) (o := .tup (cutV xs lo hi)) (fun b ob q => Heap.get?_push_of_some _ q) (Nat.le_refl _) ?_, rfl, q _ (I.hok.fresh (Nat.le_refl _))⟩
  exact ⟨Nat.le_trans (cutV_length xs lo hi) hz, _, (r.drop (HT.sIx xs.length 0 lo)).take (HT.sIx xs.length xs.length hi - HT.sIx xs.length 0 lo), IsTup.new _ _⟩
def rCatT (K : PySem.W.Frag) : R2 := fun x y H Q => ∃ a b xs ys, x = .ref a ∧ y = .ref b ∧ SqT K H a xs ∧ SqT K H b ys ∧ xs ≠ [] ∧ xs.length + ys.length ≤ sizeLine ∧
  (ys = [] → Q (.ref a) H) ∧ (ys ≠ [] → ∀ p, H p = none → Q (.ref p) (upd H p (.tup (xs ++ ys))))
theorem Vals.nil_iff {xs : List V} {us : List Value} (r : Vals xs us) : us = [] ↔ xs = [] := by
  cases r with
  | nil => simp
  | cons _ _ => simp
theorem op_catT : OpR X (binaryOp .Add) (rCatT X.K) := by
  intro pins s σ H x y v u Q I rx ry h
  obtain ⟨a, b, xs, ys, rfl, rfl, ha, hb, hx, hz, q1, q2⟩ := h
  cases rx
  cases ry
  obtain ⟨its, r1, p1, _⟩ := I.tuple ha
  obtain ⟨its2, r2, p2, _⟩ := I.tuple hb
  refine HT.cat_tup p1 p2 (fun z => hx (r1.nil_iff.mp z)) (fun z => ⟨.ref a, H, I, rfl, q1 (r2.nil_iff.mp z)⟩) (fun z => ?_) (by rw [← r1.length, ← r2.length]; exact hz)
  refine ⟨.ref s.heap.objs.size, _, I.laid (t' := s.toks) (o := .tup (xs ++ ys)) (fun b ob q => Heap.get?_push_of_some _ q) (Nat.le_refl _) ?_, rfl, q2 (fun w => z (r2.nil_iff.mpr w)) _ (I.hok.fresh (Nat.le_refl _))⟩
  exact ⟨by rw [List.length_append]; exact hz, _, r1.append r2, IsTup.new _ _⟩
end
end L2
namespace L2
open PySem PySem.Spec PyProof.Rows
def ixN (n : Nat) (i : Int) : Option Nat := if 0 ≤ i then (if i < n then some i.toNat else none) else if -(n : Int) ≤ i then some (i + n).toNat else none
def atI {α : Type} (xs : List α) (i : Int) : Option α := (ixN xs.length i).bind fun j => xs[j]?
theorem ixN_seq {n : Nat} {i : Int} {j : Nat} (h : ixN n i = some j) : seqIndex? i n = some j ∧ j < n ∧ -(n : Int) ≤ i ∧ i < n := by
  unfold ixN at h
  by_cases h0 : 0 ≤ i
  · rw [if_pos h0] at h
    by_cases h1 : i < n
    · rw [if_pos h1] at h
      have e : i.toNat = j := Option.some.inj h
      exact ⟨by rw [seqIndex_of h0 h1, e], by trivial, by trivial, h1⟩
    · rw [if_neg h1] at h; cases h
  · rw [if_neg h0] at h
    by_cases h1 : -(n : Int) ≤ i
    · rw [if_pos h1] at h
      have e : (i + n).toNat = j := Option.some.inj h
      exact ⟨by rw [seqIndex_neg (by trivial) h1, e], by trivial, h1, by trivial⟩
    · rw [if_neg h1] at h; cases h
theorem atI_get {α : Type} {xs : List α} {i : Int} {v : α} (h : atI xs i = some v) : ∃ j, seqIndex? i xs.length = some j ∧ xs[j]? = some v ∧ j < xs.length ∧ -(xs.length : Int) ≤ i ∧ i < xs.length := by
  unfold atI at h
  cases e : ixN xs.length i with
  | none => rw [e] at h; cases h
  | some j =>
    rw [e] at h
    obtain ⟨h1, h2, h3, h4⟩ := ixN_seq e
    exact ⟨j, h1, h, h2, h3, h4⟩
theorem atI_nat {α : Type} {xs : List α} {j : Nat} {v : α} (h : xs[j]? = some v) : atI xs (j : Int) = some v := by
  have hj : j < xs.length := (List.getElem?_eq_some_iff.mp h).1
  have e : ixN xs.length (j : Int) = some j := by
    unfold ixN
    rw [if_pos (by trivial), if_pos (by trivial)]; simp
  unfold atI; rw [e]; exact h
def PlainIx (b : Expr) : Prop := ∀ o i, subscripted b false o i = operate [o, i] (getItem o i)
def IxR (X : Cx) (r : R2) : Prop :=
  ∀ (value slice : Expr) (pins : List (Addr × Obj)) (s : Shared) (σ : St) (H : Hp) (x y : V) (v u : Value) (Q : VK), Inv X pins σ H s → RelV x v → RelV y u → r x y H Q →
    subscripted slice false v u = operate [v, u] (getItem v u) → wpAny (model X.prog X.w) X.A (subscriptTail value slice v u) (EP X pins σ Q) X.xe s
def MtR (X : Cx) (id : String) (r : V → List V → Hp → VK → Prop) : Prop :=
  ∀ (pins : List (Addr × Obj)) (s : Shared) (σ : St) (H : Hp) (x : V) (xs : List V) (v : Value) (us : List Value) (Q : VK), Inv X pins σ H s → RelV x v → Vals xs us → r x xs H Q →
    wpAny (model X.prog X.w) X.A (call (.builtin id) (v :: us)) (EP X pins σ Q) X.xe s
section
variable {X : Cx} {a b : Expr} {ta tb : TE} {pos : Pos}
theorem pe_ix {r : R2} (hr : IxR X r) (ha : PE X a ta) (hb : PE X b tb) (hs : PlainIx b) : PE X (.Subscript a b pos) (tOp r ta tb) := by
  intro pins s σ H Q I h
  exact Subscript_ (binT ha hb I h fun v u s2 x y H2 I2 rx ry q => hr a b pins s2 σ H2 x y v u Q I2 rx ry q (hs _ _))
def rIxL (K : PySem.W.Frag) : R2 := fun x y H Q => ∃ p xs i v, x = .ref p ∧ y = .int i ∧ SqL K H p xs ∧ atI xs i = some v ∧ Q v H
def rIxT (K : PySem.W.Frag) : R2 := fun x y H Q => ∃ p xs i v, x = .ref p ∧ y = .int i ∧ SqT K H p xs ∧ atI xs i = some v ∧ Q v H
theorem ix_list : IxR X (rIxL X.K) := by
  intro value slice pins s σ H x y v u Q I rx ry h hs
  obtain ⟨p, xs, i, z, rfl, rfl, hq, he, q⟩ := h
  cases rx
  obtain ⟨t, rfl⟩ := ry
  obtain ⟨its, r, pl, hz⟩ := I.list hq
  obtain ⟨j, h1, h2, h3, h4, h5⟩ := atI_get he
  obtain ⟨w, ew, rw'⟩ := r.get h2
  have hl := r.length
  have hn := line63
  have fin : EP X pins σ Q w s := ⟨z, H, I, rw', q⟩
  by_cases h0 : 0 ≤ i
  · have hj : i.toNat = j := by
      rw [seqIndex_of h0 h5] at h1
      exact Option.some.inj h1
    exact item_listR pl.isList h0 (by trivial) (by rw [hj]; simpa using ew) fin hs
  · have hj : (i + (its.toArray.size : Int)).toNat = j := by
      rw [seqIndex_neg (by trivial) h4] at h1
      rw [List.size_toArray, ← hl]
      exact Option.some.inj h1
    exact subscriptTail_builtinR (x := w) pl.isList.typeIs slot_list_getitem.lookup
      (wpAny_getItem_list_neg (Q := fun r s' => r = w ∧ EP X pins σ Q r s') pl.isList (by trivial) (by rw [List.size_toArray] <;> trivial) (by trivial) (by rw [hj]; simpa using ew) ⟨rfl, fin⟩) hs
theorem ix_tup : IxR X (rIxT X.K) := by
  intro value slice pins s σ H x y v u Q I rx ry h hs
  obtain ⟨p, xs, i, z, rfl, rfl, hq, he, q⟩ := h
  cases rx
  obtain ⟨t, rfl⟩ := ry
  obtain ⟨its, r, pl, hz⟩ := I.tuple hq
  obtain ⟨j, h1, h2, h3, h4, h5⟩ := atI_get he
  obtain ⟨w, ew, rw'⟩ := r.get h2
  have hl := r.length
  have hn := line63
  have fin : EP X pins σ Q w s := ⟨z, H, I, rw', q⟩
  exact subscriptTail_builtinR (x := w) pl.typeIs slot_tuple_getitem.lookup
    (getItem_tuple (j := j) (Q := fun r s' => r = w ∧ EP X pins σ Q r s') pl (by trivial) (by trivial) (by rw [List.size_toArray, ← hl]; exact h1) (by simpa using ew) ⟨rfl, fin⟩) hs
def flatV : V → Bool
  | .non => true
  | .bl _ => true
  | .int _ => true
  | .str _ => true
  | _ => false
def eqV : V → V → Bool
  | .non, .non => true
  | .bl a, .bl b => a == b
  | .bl a, .int b => (if a then 1 else 0) == b
  | .int a, .bl b => a == (if b then 1 else 0)
  | .int a, .int b => a == b
  | .str a, .str b => a == b
  | _, _ => false
theorem eqAt_V {A : Around} {s : Shared} {y x : V} {u v : Value} (ry : RelV y u) (rx : RelV x v) (fy : flatV y = true) (fx : flatV x = true) : SeqAt.EqAt A s u v (eqV y x) := by
  cases y with
  | non =>
    cases ry
    cases x with
    | non => cases rx; exact SeqAt.EqAt.same _
    | bl b => cases rx; exact SeqAt.EqAt.none_bool b
    | int b => obtain ⟨t, rfl⟩ := rx; exact SeqAt.EqAt.none_int b t
    | str b => obtain ⟨t, rfl⟩ := rx; exact SeqAt.EqAt.none_str b t
    | _ => exact absurd (show false = true from fx) Bool.false_ne_true
  | bl a =>
    cases ry
    cases x with
    | non => cases rx; exact SeqAt.EqAt.bool_none a
    | bl b => cases rx; exact SeqAt.EqAt.bool_bool a b
    | int b => obtain ⟨t, rfl⟩ := rx; exact SeqAt.EqAt.bool_int a b t
    | str b => obtain ⟨t, rfl⟩ := rx; exact SeqAt.EqAt.bool_str a b t
    | _ => exact absurd (show false = true from fx) Bool.false_ne_true
  | int a =>
    obtain ⟨t', rfl⟩ := ry
    cases x with
    | non => cases rx; exact SeqAt.EqAt.int_none a t'
    | bl b => cases rx; exact SeqAt.EqAt.int_bool a t' b
    | int b => obtain ⟨t, rfl⟩ := rx; exact SeqAt.EqAt.int_int a t' b t
    | str b => obtain ⟨t, rfl⟩ := rx; exact SeqAt.EqAt.int_str a t' b t
    | _ => exact absurd (show false = true from fx) Bool.false_ne_true
  | str a =>
    obtain ⟨t', rfl⟩ := ry
    cases x with
    | non => cases rx; exact SeqAt.EqAt.str_none a t'
    | bl b => cases rx; exact SeqAt.EqAt.str_bool a t' b
    | int b => obtain ⟨t, rfl⟩ := rx; exact SeqAt.EqAt.str_int a t' b t
    | str b => obtain ⟨t, rfl⟩ := rx; exact SeqAt.EqAt.str_str a t' b t
    | _ => exact absurd (show false = true from fx) Bool.false_ne_true
  | _ => exact absurd (show false = true from fy) Bool.false_ne_true
def eqU (x : V) (u : Value) : Bool := match u with
  | .none => eqV .non x
  | .bool b => eqV (.bl b) x
  | .int i _ => eqV (.int i) x
  | .str z _ => eqV (.str z) x
  | _ => false
theorem eqU_of {x y : V} {u : Value} (r : RelV y u) (f : flatV y = true) : eqU x u = eqV y x := by
  cases y with
  | non => cases r; rfl
  | bl b => cases r; rfl
  | int i => obtain ⟨t, rfl⟩ := r; rfl
  | str z => obtain ⟨t, rfl⟩ := r; rfl
  | _ => exact absurd (show false = true from f) Bool.false_ne_true
theorem any_eqU {x : V} : ∀ {xs : List V} {us : List Value}, Vals xs us → xs.all flatV = true → us.any (eqU x) = xs.any fun y => eqV y x
  | _, _, .nil, _ => rfl
  | y :: xs, u :: us, .cons r t, f => by
    rw [List.all_cons, Bool.and_eq_true] at f
    rw [List.any_cons, List.any_cons, eqU_of r f.1, any_eqU t f.2]
theorem mem_eqAt {A : Around} {s : Shared} {x : V} {v : Value} (rx : RelV x v) (fx : flatV x = true) : ∀ {xs : List V} {us : List Value}, Vals xs us → xs.all flatV = true → ∀ u ∈ us, SeqAt.EqAt A s u v (eqU x u)
  | _, _, .nil, _ => fun u hu => by cases hu
  | y :: xs, u :: us, .cons r t, f => fun u' hu => by
    rw [List.all_cons, Bool.and_eq_true] at f
    rcases List.mem_cons.mp hu with rfl | hu
    · rw [eqU_of r f.1]; exact eqAt_V r rx f.1 fx
    · exact mem_eqAt rx fx t f.2 u' hu
def inV (x : V) (xs : List V) : Bool := xs.any fun y => eqV y x
def rIn (K : PySem.W.Frag) (neg : Bool) : R2 := fun x y H Q => ∃ p xs, y = .ref p ∧ (SqL K H p xs ∨ SqT K H p xs) ∧ flatV x = true ∧ xs.all flatV = true ∧ Q (.bl (if neg then !inV x xs else inV x xs)) H
theorem op_in_seq : OpR X (compareOp .In) (rIn X.K false) := by
  intro pins s σ H x y v u Q I rx ry h
  obtain ⟨p, xs, rfl, hq, fx, fs, q⟩ := h
  cases ry
  rcases hq with hq | hq
  · obtain ⟨its, r, pl, hz⟩ := I.list hq
    refine SeqAt.in_listAt (eqU x) pl.isList (fun w hw => mem_eqAt rx fx r fs w (by simpa using hw)) ⟨.bl _, H, I, rfl, ?_⟩
    rw [show its.toArray.any (eqU x) = its.any (eqU x) by simp, any_eqU r fs]
    exact q
  · obtain ⟨its, r, pl, hz⟩ := I.tuple hq
    refine SeqAt.in_tupleAt (eqU x) pl (fun w hw => mem_eqAt rx fx r fs w (by simpa using hw)) ⟨.bl _, H, I, rfl, ?_⟩
    rw [show its.toArray.any (eqU x) = its.any (eqU x) by simp, any_eqU r fs]
    exact q
theorem call_len_seq : CallR X (.builtin "len") (fun xs H Q => ∃ p ys, xs = [.ref p] ∧ (SqL X.K H p ys ∨ SqT X.K H p ys) ∧ Q (.int ys.length) H) := by
  intro pins s σ H xs us Q I r h
  obtain ⟨p, ys, rfl, hq, q⟩ := h
  obtain ⟨u, rfl, rx⟩ := vals1 r
  cases rx
  have hn := line63
  rcases hq with hq | hq
  · obtain ⟨its, r', pl, hz⟩ := I.list hq
    have hlen := r'.length
    exact Calls.call_len_list pl.isList (by simp only [List.size_toArray] <;> trivial) ⟨.int ys.length, H, I.tok _, ⟨s.toks + 1, by rw [List.size_toArray, hlen]⟩, q⟩
  · obtain ⟨its, r', pl, hz⟩ := I.tuple hq
    have hlen := r'.length
    exact len_tuple pl (by simp only [List.size_toArray] <;> trivial) ⟨.int ys.length, H, I.tok _, ⟨s.toks + 1, by rw [List.size_toArray, hlen]⟩, q⟩
theorem call_list_of : CallR X (.type "list") (fun xs H Q => ∃ p ys, xs = [.ref p] ∧ (SqL X.K H p ys ∨ SqT X.K H p ys) ∧ ∀ l, H l = none → Q (.ref l) (upd H l (.lst ys))) := by
  intro pins s σ H xs us Q I r h
  obtain ⟨p, ys, rfl, hq, q⟩ := h
  obtain ⟨u, rfl, rx⟩ := vals1 r
  cases rx
  have fin : ∀ (its : List Value), Vals ys its → ys.length ≤ sizeLine → ∀ (h' : Heap) (c' : Nat), (∀ b o', s.heap.get? b = some o' → h'.get? b = some o') →
      h'.get? s.heap.objs.size = some { cls := .type "list", dict := none, data := .seq its.toArray c', slots := #[] } → EP X pins σ Q (.ref s.heap.objs.size) { s with heap := h' } := fun its r' hz h' c' kp e =>
    ⟨.ref s.heap.objs.size, _, I.laid (t' := s.toks) kp (Nat.le_refl _) (show ObjOk X.prog X.w _ h' _ (.lst ys) from ⟨hz, its, c', r', e⟩), rfl, q _ (I.hok.fresh (Nat.le_refl _))⟩
  rcases hq with hq | hq
  · obtain ⟨its, r', pl, hz⟩ := I.list hq
    have hlen := r'.length
    obtain ⟨o, ho, hc, n, hd⟩ := pl.isList
    exact call_list_seq p (.inl rfl) ho hc hd (fun h' c' kp e => fin its r' hz h' c' kp e) (by simp only [List.size_toArray] <;> trivial)
  · obtain ⟨its, r', pl, hz⟩ := I.tuple hq
    have hlen := r'.length
    obtain ⟨o, ho, hc, n, hd⟩ := pl
    exact call_list_seq p (.inr rfl) ho hc hd (fun h' c' kp e => fin its r' hz h' c' kp e) (by simp only [List.size_toArray] <;> trivial)
theorem call_tuple_of : CallR X (.type "tuple") (fun xs H Q => ∃ p ys, xs = [.ref p] ∧ ((SqL X.K H p ys ∧ ∀ l, H l = none → Q (.ref l) (upd H l (.tup ys))) ∨ (SqT X.K H p ys ∧ Q (.ref p) H))) := by
  intro pins s σ H xs us Q I r h
  obtain ⟨p, ys, rfl, h⟩ := h
  obtain ⟨u, rfl, rx⟩ := vals1 r
  cases rx
  rcases h with ⟨hq, q⟩ | ⟨hq, q⟩
  · obtain ⟨its, r', pl, hz⟩ := I.list hq
    have hlen := r'.length
    refine call_tuple_list pl.isList (fun h' kp => ?_) (by simp only [List.size_toArray] <;> trivial)
    have I1 : Inv X pins σ H { s with heap := h' } := I.kept (t' := s.toks) kp
    have I2 : Inv X pins σ (upd H h'.objs.size (.tup ys)) { s with heap := h'.push { cls := .type "tuple", data := .seq its.toArray } } :=
      I1.laid (t' := s.toks) (fun b o e => Heap.get?_push_of_some _ e) (Nat.le_refl _) (show ObjOk X.prog X.w _ _ _ (.tup ys) from ⟨hz, its, r', IsTup.new _ _⟩)
    exact ⟨.ref h'.objs.size, _, I2, rfl, q _ (I1.hok.fresh (Nat.le_refl _))⟩
  · obtain ⟨its, r', pl, hz⟩ := I.tuple hq
    exact call_tuple_same pl ⟨.ref p, H, I, rfl, q⟩
def tyV (K : PySem.W.Frag) (T : String) (x : V) (H : Hp) : Prop := match x with
  | .str _ => T = "str"
  | .int _ => T = "int"
  | .ref p => (T = "list" ∧ ∃ xs, SqL K H p xs) ∨ (T = "tuple" ∧ ∃ o, K.lookup p = some o ∧ o.cls = .type "tuple" ∧ o.dict = none) ∨
      (T = "dict" ∧ ((∃ kvs, H p = some (.dK kvs)) ∨ ∃ kvs, H p = some (.dT kvs))) ∨ (T = "set" ∧ ∃ S n, H p = some (.set S n))
  | _ => False
theorem tyV_is {pins : List (Addr × Obj)} {σ : St} {H : Hp} {s : Shared} {T : String} {x : V} {v : Value} (I : Inv X pins σ H s) (r : RelV x v) (ty : tyV X.K T x H) :
    s.TypeIs v T ∧ ∀ a, v = .ref a → ∃ ob, s.heap.get? a = some ob ∧ ob.dict = none := by
  cases x with
  | str z =>
    obtain ⟨t, rfl⟩ := r
    cases (show T = "str" from ty)
    exact ⟨typeIs_str s z t, fun _ e => nomatch e⟩
  | int i =>
    obtain ⟨t, rfl⟩ := r
    cases (show T = "int" from ty)
    exact ⟨typeIs_int s i t, fun _ e => nomatch e⟩
  | ref p =>
    cases r
    rcases ty with ⟨rfl, xs, hq⟩ | ⟨rfl, o, hk, hc, hd⟩ | ⟨rfl, hk⟩ | ⟨rfl, S, n, hk⟩
    · obtain ⟨its, _, pl, _⟩ := I.list hq
      refine ⟨pl.isList.typeIs, fun a e => ?_⟩
      cases e
      obtain ⟨o, n, e, c, hd, _⟩ := pl
      exact ⟨o, e, hd⟩
    · refine ⟨⟨o, I.kIn p o hk, hc⟩, fun a e => ?_⟩
      cases e
      exact ⟨o, I.kIn _ o hk, hd⟩
    · have z : ∃ o, s.heap.get? p = some o ∧ o.ExactDict := by
        rcases hk with ⟨kvs, hk⟩ | ⟨kvs, hk⟩
        · obtain ⟨_, _, _, _, o, _, _, e, ex, _⟩ := I.hok p _ hk
          exact ⟨o, e, ex⟩
        · obtain ⟨_, _, _, _, o, _, _, e, ex, _⟩ := I.hok p _ hk
          exact ⟨o, e, ex⟩
      obtain ⟨o, e, ex⟩ := z
      refine ⟨⟨o, e, ex.1⟩, fun a e2 => ?_⟩
      cases e2
      exact ⟨o, e, ex.2.1⟩
    · obtain ⟨o, _, _, _, e, ex, _⟩ := I.hok p _ hk
      refine ⟨⟨o, e, ex.1⟩, fun a e2 => ?_⟩
      cases e2
      exact ⟨o, e, ex.2.1⟩
  | _ => exact False.elim ty
def tBM (K : PySem.W.Frag) (T : String) (r : V → List V → Hp → VK → Prop) (to : TE) (t : TA) : TE := fun σ H Q => to σ H fun x H1 => tyV K T x H1 ∧ t σ H1 fun xs H2 => r x xs H2 Q
variable {o e : Expr} {es : List Expr} {to : TE} {t : TA} {name : Str} {apos cpos : Pos} {T id : String} {r : V → List V → Hp → VK → Prop}
theorem pe_bm (pa : PlainAttrs T) (slot : Slot T name id) (hty : typeOf (.builtin id) = pure (.type "method_descriptor")) (hm : MtR X id r) (ho : PE X o to) (ha : PA X (e :: es) t)
    (hbase : attributeBase o name X.env (eval o X.env) = eval o X.env := by rfl)
    (hfew : ((backTo cpos (starEach (e :: es) X.env)).all (fun x => !x.1) && (backToKw cpos (keywordEach [] X.env)).all (fun x => x.1.isSome)
      && decide ((e :: es).length + ([] : List Keyword).length + (if ([] : List Keyword).isEmpty then 0 else 1) < 30)) = true := by rfl)
    (hline : (apos.endLine == cpos.line) = true := by rfl) (hs : starEach (e :: es) X.env = (false, eval e X.env) :: starEach es X.env := by rfl) (hplain : (backTo cpos (starEach es X.env)).any (·.1) = false := by rfl) :
    PE X (.Call (.Attribute o name apos) (e :: es) [] cpos) (tBM X.K T r to t) := by
  intro pins s σ H Q I h
  refine wpAny_Call_method_late hbase hfew hline rfl (thn (ho pins s σ H _ I h) fun v s1 ⟨x, H1, I1, r1, ty, q1⟩ => ?_)
  obtain ⟨h1, h2⟩ := tyV_is I1 r1 ty
  refine ⟨T, id, pa, slot, hty, h1, h2, ?_⟩
  have hA := ha cpos pins s1 σ H1 _ I1 q1
  rw [hs] at hA ⊢
  refine Calls.callWith_builtin (by show (false || (backTo cpos (starEach es X.env)).any (·.1)) = false; rw [hplain] <;> rfl) (Calls.evalArgs_plain ?_)
  exact thn hA fun us s2 ⟨vs, H2, I2, r2, q2⟩ => hm pins s2 σ H2 x vs v us Q I2 r1 r2 q2
end
end L2
namespace L2
open PySem PySem.Spec PyProof.Rows
def MtM (X : Cx) (id : String) (r : V → List V → Hp → VK → Prop) : Prop :=
  ∀ (pins : List (Addr × Obj)) (s : Shared) (σ : St) (H : Hp) (x : V) (xs : List V) (v : Value) (us : List Value) (Q : VK), Inv X pins σ H s → RelV x v → Vals xs us → r x xs H Q →
    wpAny (model X.prog X.w) X.A (call (.builtin id) (v :: us)) (EP X pins σ Q) X.xe s
theorem Vals.one : ∀ {x : V} {us : List Value}, Vals [x] us → ∃ u, us = [u] ∧ RelV x u
  | _, _, .cons r .nil => ⟨_, rfl, r⟩
theorem Vals.reverse {xs : List V} {us : List Value} (h : Vals xs us) : Vals xs.reverse us.reverse := by
  induction h with
  | nil => exact .nil
  | cons r t ih => rw [List.reverse_cons, List.reverse_cons]; exact Vals.append ih (.cons r .nil)
theorem Vals.rep {xs : List V} {us : List Value} (h : Vals xs us) : ∀ k : Nat, Vals (List.replicate k xs).flatten (List.replicate k us).flatten
  | 0 => .nil
  | k + 1 => by
    rw [List.replicate_succ, List.replicate_succ, List.flatten_cons, List.flatten_cons]
    exact Vals.append h (Vals.rep h k)
theorem foldl_rep (its : List Value) : ∀ (k : Nat) (acc : List Value),
    List.foldl (fun x1 x2 => x1 ++ x2) acc.toArray (List.replicate k its.toArray) = (acc ++ (List.replicate k its).flatten).toArray
  | 0, acc => by simp
  | k + 1, acc => by
    have e : acc.toArray ++ its.toArray = (acc ++ its).toArray := by simp
    have e2 : (acc ++ its) ++ (List.replicate k its).flatten = acc ++ (List.replicate (k + 1) its).flatten := by
      rw [List.replicate_succ, List.flatten_cons, List.append_assoc]
    rw [← e2, ← foldl_rep its k (acc ++ its), ← e, List.replicate_succ, List.foldl_cons]
section
variable {X : Cx} {pins : List (Addr × Obj)} {σ : St} {H : Hp} {s : Shared} {l b : Addr} {xs ys zs : List V}
theorem Inv.lset {its its' : List Value} {n : Nat} {f : Array Value → Array Value} {t' : Nat} (I : Inv X pins σ H s) (hH : H l = some (.lst xs))
    (e : s.heap.get? l = some { cls := .type "list", data := .seq its.toArray n }) (hf : f its.toArray = its'.toArray) (hv : Vals ys its') (hz : ys.length ≤ sizeLine) :
    Inv X pins σ (upd H l (.lst ys)) { s with heap := s.heap.update l (Obj.mapSeq f), toks := t' } := by
  have q := PySem.IsL.update e f
  rw [hf] at q
  refine I.write (x := l) (e := l) (by rw [hH]; exact trivial) (.inl rfl) (fun b' u hb hu => (Heap.get?_update_other s.heap (Obj.mapSeq f) (Ne.symm hb)).trans hu) ⟨_, q⟩ ?_
  exact ⟨hz, its', _, hv, q⟩
theorem Inv.lnew {its : List Value} {t' : Nat} (I : Inv X pins σ H s) (hv : Vals ys its) (hz : ys.length ≤ sizeLine) :
    Inv X pins σ (upd H s.heap.objs.size (.lst ys)) { s with heap := s.heap.push { cls := .type "list", data := .seq its.toArray }, toks := t' } :=
  I.laid (fun _ _ q => Heap.get?_push_of_some _ q) (Nat.le_refl _) ⟨hz, its, 0, hv, Heap.get?_push_size _ rfl⟩
theorem Inv.fresh (I : Inv X pins σ H s) : H s.heap.objs.size = none := I.hok.fresh (Nat.le_refl _)
theorem Inv.lstM (I : Inv X pins σ H s) (hH : H l = some (.lst xs)) : xs.length ≤ sizeLine ∧ ∃ (its : List Value) (n : Nat), Vals xs its ∧ xs.length = its.length ∧ s.heap.get? l = some { cls := .type "list", data := .seq its.toArray n } := by
  obtain ⟨z, its, n, r, e⟩ := I.hok l _ hH
  exact ⟨z, its, n, r, r.length, e⟩
theorem notLongL {n : Nat} (h : n ≤ sizeLine) : Builtin.List.listTooLong n = false := by
  unfold Builtin.List.listTooLong
  exact decide_eq_false (by trivial)
end
section
variable {X : Cx}
def rAppend : V → List V → Hp → VK → Prop := fun x vs H Q => ∃ l xs y, x = .ref l ∧ vs = [y] ∧ H l = some (.lst xs) ∧ xs.length < sizeLine ∧ Q .non (upd H l (.lst (xs ++ [y])))
theorem mt_append : MtM X "list.append" rAppend := by
  intro pins s σ H x vs v us Q I rx rv h
  obtain ⟨l, xs, y, rfl, rfl, hH, hz, q⟩ := h
  cases rx
  obtain ⟨u, rfl, ru⟩ := rv.one
  obtain ⟨z, its, n, r, hl, e⟩ := I.lstM hH
  refine call_meets F.slot_list_append ⟨_, e, rfl⟩ F.entry_list_append (F.args_list_append_2 _ _) (PySem.list_append l its.toArray n u (by rw [List.size_toArray]; trivial)) ⟨e, ?_⟩
  refine ⟨.non, _, I.lset (its' := its ++ [u]) hH e (by simp) (r.append (.cons ru .nil)) ?_, rfl, q⟩
  rw [List.length_append, List.length_singleton]
  trivial
def rExtend : V → List V → Hp → VK → Prop := fun x vs H Q => ∃ l b xs zs, x = .ref l ∧ vs = [.ref b] ∧ H l = some (.lst xs) ∧ H b = some (.lst zs) ∧ xs.length + zs.length ≤ sizeLine ∧ Q .non (upd H l (.lst (xs ++ zs)))
theorem mt_extend : MtM X "list.extend" rExtend := by
  intro pins s σ H x vs v us Q I rx rv h
  obtain ⟨l, b, xs, zs, rfl, rfl, hH, hB, hz, q⟩ := h
  cases rx
  obtain ⟨u, rfl, ru⟩ := rv.one
  cases ru
  obtain ⟨z, its, n, r, hl, e⟩ := I.lstM hH
  obtain ⟨z2, its2, n2, r2, hl2, e2⟩ := I.lstM hB
  have hsz : its.toArray.size + its2.toArray.size ≤ sizeLine := by rw [List.size_toArray, List.size_toArray]; trivial
  have hlong : ¬ (!its.toArray.isEmpty && Builtin.List.listTooLong (its.toArray.size + its2.toArray.size)) = true := by
    rw [notLongL hsz, Bool.and_false]
    exact Bool.false_ne_true
  refine call_meets F.slot_list_extend ⟨_, e, rfl⟩ F.entry_list_extend (F.args_list_extend_2 _ _)
    (AutoSeq1.list_extend_list_list_0 l its.toArray n b its2.toArray n2 hlong (by rw [List.size_toArray]; trivial) (by trivial)) ⟨e, e2, ?_⟩
  refine ⟨.non, _, I.lset (its' := its ++ its2) hH e (by simp) (r.append r2) ?_, rfl, q⟩
  rw [List.length_append]
  trivial
def rCat : R2 := fun x y H Q => ∃ l b xs zs, x = .ref l ∧ y = .ref b ∧ H l = some (.lst xs) ∧ H b = some (.lst zs) ∧ xs.length + zs.length ≤ sizeLine ∧ ∀ p, H p = none → Q (.ref p) (upd H p (.lst (xs ++ zs)))
theorem op_cat : OpR X (binaryOp .Add) rCat := by
  intro pins s σ H x y v u Q I rx ry h
  obtain ⟨l, b, xs, zs, rfl, rfl, hH, hB, hz, q⟩ := h
  cases rx
  cases ry
  obtain ⟨z, its, n, r, hl, e⟩ := I.lstM hH
  obtain ⟨z2, its2, n2, r2, hl2, e2⟩ := I.lstM hB
  refine PySem.P.add_list e e2 ?_ (by rw [List.size_toArray, List.size_toArray]; trivial)
  have ea : its.toArray ++ its2.toArray = (its ++ its2).toArray := by simp
  rw [ea]
  exact ⟨.ref _, _, I.lnew (t' := s.toks) (r.append r2) (by rw [List.length_append]; trivial), rfl, q _ I.fresh⟩
def rRep : R2 := fun x y H Q => ∃ l k xs, x = .ref l ∧ y = .int k ∧ H l = some (.lst xs) ∧ -(2 ^ 63) ≤ k ∧ k < 2 ^ 63 ∧ xs.length * k.toNat ≤ sizeLine ∧
  ∀ p, H p = none → Q (.ref p) (upd H p (.lst (List.replicate k.toNat xs).flatten))
theorem len_rep {α : Type} (xs : List α) (k : Nat) : (List.replicate k xs).flatten.length = k * xs.length := by
  induction k with
  | zero => simp
  | succ k ih => rw [List.replicate_succ, List.flatten_cons, List.length_append, ih, Nat.succ_mul, Nat.add_comm]
theorem op_rep : OpR X (binaryOp .Mult) rRep := by
  intro pins s σ H x y v u Q I rx ry h
  obtain ⟨l, k, xs, rfl, rfl, hH, h1, h2, hz, q⟩ := h
  cases rx
  obtain ⟨t, rfl⟩ := ry
  obtain ⟨z, its, n, r, hl, e⟩ := I.lstM hH
  have hlen : its.toArray.size * k.toNat ≤ sizeLine := by rw [List.size_toArray, ← hl]; exact hz
  have hcap : ¬ its.toArray.size * k.toNat > (2 ^ 63 - 1) / 8 := by
    have : (sizeLine : Nat) ≤ (2 ^ 63 - 1) / 8 := by decide
    trivial
  have hfit : ¬ (!Builtin.List.listFitsIndex k) = true := by
    rw [fitsIndex_both h1 h2]
    exact Bool.false_ne_true
  have hlong : ¬ Builtin.List.listTooLong (its.toArray.size * k.toNat) = true := by
    rw [notLongL hlen]
    exact Bool.false_ne_true
  have hnew : List.foldl (fun x1 x2 => x1 ++ x2) #[] (List.replicate (if its.toArray.isEmpty = true then 0 else k.toNat) its.toArray) = (List.replicate k.toNat its).flatten.toArray := by
    have f0 : ∀ m : Nat, List.foldl (fun x1 x2 => x1 ++ x2) #[] (List.replicate m its.toArray) = (List.replicate m its).flatten.toArray := fun m => by
      have := foldl_rep its m []
      rw [List.nil_append] at this
      exact this
    rw [f0]
    cases its with
    | nil => simp
    | cons a r' => rw [if_neg (by simp)]
  refine wpAny_binaryOp_repeat_ref (T := "list") (U := "int") (by decide) ⟨_, e, rfl⟩ (fun s' => typeIs_int s' k t) noFill_list_mul F.fills_int_mul F.slot_int_rmul repeat_list F.slot_int_index.lookup
    (call_meets F.slot_int_rmul (typeIs_int s k t) F.entry_int_rmul (F.args_int_rmul_2 _ _) (int___rmul___int_list k t l its.toArray n)
      ⟨e, rfl, ⟨_, e, rfl⟩, call_meets F.slot_list_mul ⟨_, e, rfl⟩ F.entry_list_mul (F.args_list_mul_2 _ _) (AutoListH.list___mul___list_int_3 l its.toArray n k t hfit hcap hlong) ⟨e, ?_⟩⟩)
  rw [hnew]
  exact ⟨.ref _, _, I.lnew (t' := s.toks) (r.rep k.toNat) (by rw [len_rep, Nat.mul_comm]; exact hz), rfl, q _ I.fresh⟩
end
section
variable {prog : Program} {w : World} {A : Around} {E : Value → Shared → Prop} {s : Shared}
end
section
variable {X : Cx}
end
end L2
namespace L2
open PySem PySem.Spec PyProof.Rows
theorem Vals.ints : ∀ {ns : List Int} {us : List Value}, Vals (ns.map V.int) us → IntsAre us ns
  | [], us, h => by
    rw [List.map_nil] at h
    cases h
    exact IntsAre.nil
  | n :: ns, us, h => by
    rw [List.map_cons] at h
    cases h with
    | cons r t =>
      obtain ⟨k, rfl⟩ := r
      exact IntsAre.cons n k (Vals.ints t)
theorem Vals.ref1 {a : Addr} {us : List Value} (r : Vals [V.ref a] us) : us = [Value.ref a] := by
  cases r with
  | cons r t =>
    cases t
    cases r
    rfl
section
variable {prog : Program} {w : World} {A : Around} {E : Value → Shared → Prop} {s : Shared} {l : Addr} {its : List Value} {ns : List Int} {Q : Value → Shared → Prop}
theorem sum_raw (hh : A.handled = none) (hl : s.heap.IsList l its.toArray) (hi : IntsAre its ns)
    (h : ∀ h' tk t', (∀ b o, s.heap.get? b = some o → h'.get? b = some o) → Q (.int ns.sum t') { s with heap := h', toks := tk }) : wpAny (model prog w) A (call (.builtin "sum") [.ref l]) Q E s := by
  obtain ⟨xs, e⟩ := hi.allInts.items
  have hn : numsOf (intItems xs).toList = ns := by rw [← e]; exact hi.numsOf
  rw [nums_intItems] at hn
  rw [e] at hl
  refine PySem.sum_intListG hh hl fun h' tk t' hk => ?_
  have := h h' tk t' hk
  rw [preSum_eq, List.take_of_length_le (by simp), hn]; exact this
end
section
variable {X : Cx}
def rSum (K : PySem.W.Frag) : List V → Hp → VK → Prop := fun vs H Q => ∃ (a : Addr) (ns : List Int), vs = [V.ref a] ∧ SqL K H a (ns.map V.int) ∧ Q (.int ns.sum) H
theorem cr_sum (hc : X.calm = true) : CallR X (.builtin "sum") (rSum X.K) := by
  intro pins s σ H vs us Q I r h
  obtain ⟨a, ns, rfl, hs, q⟩ := h
  obtain ⟨its, rv, hl, _⟩ := I.list hs
  rw [Vals.ref1 r]
  exact sum_raw (I.ok.hd hc) hl.isList rv.ints fun h' tk t' hk => ⟨.int _, H, I.kept hk, ⟨_, rfl⟩, q⟩
end
section
variable {X : Cx}
end
section
variable {X : Cx}
end
section
variable {X : Cx}
end
mutual
inductive Dp (K : PySem.W.Frag) (H : Hp) : V → PyData → Prop
  | non : Dp K H .non .none
  | bl (b : Bool) : Dp K H (.bl b) (.bool b)
  | int (i : Int) : Dp K H (.int i) (.int i)
  | str (x : Str) : Dp K H (.str x) (.str x)
  | lst {a : Addr} {xs : List V} {ds : List PyData} : SqL K H a xs → DpAll K H xs ds → Dp K H (.ref a) (.list ds)
  | tup {a : Addr} {xs : List V} {ds : List PyData} : SqT K H a xs → DpAll K H xs ds → Dp K H (.ref a) (.tuple ds)
inductive DpAll (K : PySem.W.Frag) (H : Hp) : List V → List PyData → Prop
  | nil : DpAll K H [] []
  | cons {v : V} {vs : List V} {d : PyData} {ds : List PyData} : Dp K H v d → DpAll K H vs ds → DpAll K H (v :: vs) (d :: ds)
end
section
variable {X : Cx} {pins : List (Addr × Obj)} {σ : St} {H : Hp} {s : Shared}
mutual
theorem Dp.reads (I : Inv X pins σ H s) : ∀ (d : PyData) (v : V) (u : Value), Dp X.K H v d → RelV v u → ∃ as, Reads s.heap u d as
  | .none, _, _, h, r => by
    cases h
    cases r
    exact ⟨_, Reads.none⟩
  | .bool b, _, _, h, r => by
    cases h
    cases r
    exact ⟨_, Reads.bool b⟩
  | .int i, _, _, h, r => by
    cases h
    obtain ⟨t, rfl⟩ := r
    exact ⟨_, Reads.int i t⟩
  | .str x, _, _, h, r => by
    cases h
    obtain ⟨t, rfl⟩ := r
    exact ⟨_, Reads.str x t⟩
  | .list ds, _, _, h, r => by
    cases h with
    | lst hs ha =>
      cases r
      obtain ⟨its, rv, ⟨o, n, ho, hc, _, hd⟩, _⟩ := I.list hs
      obtain ⟨as, hr⟩ := Dp.readsAll I ds _ its ha rv
      exact ⟨_, Reads.list ho hc hd hr⟩
  | .tuple ds, _, _, h, r => by
    cases h with
    | tup hs ha =>
      cases r
      obtain ⟨its, rv, ⟨o, ho, hc, n, hd⟩, _⟩ := I.tuple hs
      obtain ⟨as, hr⟩ := Dp.readsAll I ds _ its ha rv
      exact ⟨_, Reads.tuple ho hc hd hr⟩
  | .dict _, _, _, h, _ => by cases h
theorem Dp.readsAll (I : Inv X pins σ H s) : ∀ (ds : List PyData) (vs : List V) (us : List Value), DpAll X.K H vs ds → Vals vs us → ∃ as, ReadsAll s.heap us ds as
  | [], _, _, h, r => by
    cases h
    cases r
    exact ⟨_, ReadsAll.nil⟩
  | d :: ds, _, _, h, r => by
    cases h with
    | cons h1 h2 =>
      cases r with
      | cons r1 r2 =>
        obtain ⟨as, q1⟩ := Dp.reads I d _ _ h1 r1
        obtain ⟨bs, q2⟩ := Dp.readsAll I ds _ _ h2 r2
        exact ⟨_, ReadsAll.cons q1 q2⟩
end
end
section
variable {X : Cx}
end
end L2
namespace L2
open PySem PySem.Spec PyProof.Rows
abbrev CellAt (h : Heap) (c : Addr) (v : Option Value) : Prop := h.IsCell c v
def relS (scope sc : Scope) : Scope :=
  { scope with names := scope.names.map fun (n, k) => if (k == .free && sc.kind == .function && sc.names.lookup n == some .cell) then (n, .cell) else (n, k) }
def cloFrom (cells : List (Str × Addr)) : List (Str × NameKind) → List (Str × Addr) → List (Str × Addr)
  | [], acc => acc
  | (n, k) :: r, acc => if k == .free then cloFrom cells r ((n, (cells.lookup n).getD 0) :: acc) else cloFrom cells r acc
theorem closure_loop (env : Env) (f : Str × NameKind → List (Str × Addr) → Sem (ForInStep (List (Str × Addr))))
    (hf : ∀ n k c, f (n, k) c = if k == .free then (do let a ← cellOf env n; pure (.yield ((n, a) :: c))) else pure (.yield c)) :
    ∀ (names : List (Str × NameKind)) (acc : List (Str × Addr)), (∀ y ∈ names, y.2 = .free → ∃ c, env.cells.lookup y.1 = some c) → forIn names acc f = pure (cloFrom env.cells names acc)
  | [], acc, _ => by rw [List.forIn_nil]; rfl
  | (n, k) :: r, acc, h => by
    rw [List.forIn_cons, hf]
    have ih := fun acc => closure_loop env f hf r acc fun y hy => h y (List.mem_cons_of_mem _ hy)
    unfold cloFrom
    by_cases hk : (k == NameKind.free) = true
    · rw [if_pos hk, if_pos hk]
      obtain ⟨c, hc⟩ := h (n, k) List.mem_cons_self (by simpa using hk)
      have e : cellOf env n = pure c := by unfold cellOf; rw [hc]
      rw [e]
      have e2 : (env.cells.lookup n).getD 0 = c := by rw [hc]; rfl
      rw [e2]
      exact ih _
    · rw [if_neg hk, if_neg hk]
      exact ih _
theorem closure_ok {scope : Scope} {env : Env} (h : ∀ y ∈ scope.names, y.2 = .free → ∃ c, env.cells.lookup y.1 = some c) : closureFor scope env = pure (cloFrom env.cells scope.names []) := by
  simp only [closureFor]
  rw [closure_loop env _ (fun n k c => rfl) scope.names [] h]
  rfl
theorem mem_lookup {α : Type} : ∀ {l : List (Str × α)} {n : Str} {c : α}, (n, c) ∈ l → ∃ c', l.lookup n = some c'
  | (k, v) :: r, n, c, h => by
    rw [List.lookup_cons]
    cases hb : n == k with
    | true => exact ⟨_, rfl⟩
    | false =>
      rcases List.mem_cons.mp h with e | h
      · cases e; simp at hb
      · exact mem_lookup h
theorem cloFrom_mem {cells : List (Str × Addr)} : ∀ {names : List (Str × NameKind)} {acc : List (Str × Addr)} {n : Str} {c : Addr}, (n, c) ∈ cloFrom cells names acc → (n, c) ∈ acc ∨ ((n, .free) ∈ names ∧ c = (cells.lookup n).getD 0)
  | [], _, _, _, h => .inl h
  | (m, k) :: r, acc, n, c, h => by
    unfold cloFrom at h
    split at h
    · rename_i hk
      have hk : k = .free := by simpa using hk
      rcases cloFrom_mem h with h | ⟨h1, h2⟩
      · rcases List.mem_cons.mp h with e | h
        · cases e; exact .inr ⟨hk ▸ List.mem_cons_self, rfl⟩
        · exact .inl h
      · exact .inr ⟨List.mem_cons_of_mem _ h1, h2⟩
    · rcases cloFrom_mem h with h | ⟨h1, h2⟩
      · exact .inl h
      · exact .inr ⟨List.mem_cons_of_mem _ h1, h2⟩
theorem cloFrom_acc {cells : List (Str × Addr)} : ∀ {names : List (Str × NameKind)} {acc : List (Str × Addr)} {p : Str × Addr}, p ∈ acc → p ∈ cloFrom cells names acc
  | [], _, _, h => h
  | (m, k) :: r, acc, p, h => by
    unfold cloFrom
    split
    · exact cloFrom_acc (List.mem_cons_of_mem _ h)
    · exact cloFrom_acc h
theorem cloFrom_has {cells : List (Str × Addr)} : ∀ {names : List (Str × NameKind)} {acc : List (Str × Addr)} {n : Str}, (n, .free) ∈ names → (n, (cells.lookup n).getD 0) ∈ cloFrom cells names acc
  | (m, k) :: r, acc, n, h => by
    unfold cloFrom
    rcases List.mem_cons.mp h with e | h
    · cases e
      exact cloFrom_acc List.mem_cons_self
    · split
      · exact cloFrom_has h
      · exact cloFrom_has h
theorem cells_mem : ∀ {names : List (Str × NameKind)} {h : Heap} {acc : List (Str × Addr)} {x : Str} {c : Addr}, (x, c) ∈ cellsFrom h.objs.size names acc →
    (x, c) ∈ acc ∨ ((x, .cell) ∈ names ∧ h.objs.size ≤ c ∧ CellAt (pushCells h names) c none)
  | [], _, _, _, _, h => .inl h
  | (n, k) :: r, h, acc, x, c, hm => by
    unfold cellsFrom at hm
    unfold pushCells
    split at hm
    · rename_i hk
      rw [if_pos hk]
      have hk : k = .cell := by simpa using hk
      rw [← Heap.size_push h { cls := .type "cell", data := .cell none }] at hm
      rcases cells_mem hm with hm | ⟨h1, h2, h3⟩
      · rcases List.mem_cons.mp hm with e | hm
        · cases e
          exact .inr ⟨hk ▸ List.mem_cons_self, Nat.le_refl _, _, pushCells_keeps r _ _ _ (Heap.get?_push_size _ rfl), rfl⟩
        · exact .inl hm
      · rw [Heap.size_push] at h2
        exact .inr ⟨List.mem_cons_of_mem _ h1, Nat.le_of_succ_le h2, h3⟩
    · rename_i hk
      rw [if_neg hk]
      rcases cells_mem hm with hm | ⟨h1, h2, h3⟩
      · exact .inl hm
      · exact .inr ⟨List.mem_cons_of_mem _ h1, h2, h3⟩
theorem cells_acc : ∀ {names : List (Str × NameKind)} {n : Nat} {acc : List (Str × Addr)} {p : Str × Addr}, p ∈ acc → p ∈ cellsFrom n names acc
  | [], _, _, _, h => h
  | (m, k) :: r, n, acc, p, h => by
    unfold cellsFrom
    split
    · exact cells_acc (List.mem_cons_of_mem _ h)
    · exact cells_acc h
theorem cells_has : ∀ {names : List (Str × NameKind)} {n : Nat} {acc : List (Str × Addr)} {x : Str}, (x, .cell) ∈ names → ∃ c, (x, c) ∈ cellsFrom n names acc
  | (m, k) :: r, n, acc, x, h => by
    unfold cellsFrom
    rcases List.mem_cons.mp h with e | h
    · cases e
      exact ⟨n, cells_acc List.mem_cons_self⟩
    · split
      · exact cells_has h
      · exact cells_has h
theorem cells_inj : ∀ {names : List (Str × NameKind)} {h : Heap} {acc : List (Str × Addr)} {x y : Str} {c : Addr}, (∀ p ∈ acc, p.2 < h.objs.size) → (∀ x y c, (x, c) ∈ acc → (y, c) ∈ acc → x = y) →
    (x, c) ∈ cellsFrom h.objs.size names acc → (y, c) ∈ cellsFrom h.objs.size names acc → x = y
  | [], _, _, _, _, _, _, hi, h1, h2 => hi _ _ _ h1 h2
  | (n, k) :: r, h, acc, x, y, c, hl, hi, h1, h2 => by
    unfold cellsFrom at h1 h2
    split at h1
    · rename_i hk
      rw [if_pos hk] at h2
      rw [← Heap.size_push h { cls := .type "cell", data := .cell none }] at h1 h2
      refine cells_inj (h := h.push _) (fun p hp => ?_) (fun x y c a b => ?_) h1 h2
      · rw [Heap.size_push]
        rcases List.mem_cons.mp hp with rfl | hp
        · exact Nat.lt_succ_self _
        · exact Nat.lt_succ_of_lt (hl p hp)
      · rcases List.mem_cons.mp a with e | a <;> rcases List.mem_cons.mp b with e' | b
        · cases e; cases e'; rfl
        · cases e; exact absurd (hl _ b) (Nat.lt_irrefl _)
        · cases e'; exact absurd (hl _ a) (Nat.lt_irrefl _)
        · exact hi _ _ _ a b
    · rename_i hk
      rw [if_neg hk] at h2
      exact cells_inj hl hi h1 h2
theorem newEnv_comp {M : Model} {A : Around} {E : Value → Shared → Prop} {s : Shared} {scope : Scope} {globals : Addr} {closure : List (Str × Addr)} {qual : Str} {func : Option Addr} {code : Value} {around : Env} {builtins : Addr} {Q : Env → Shared → Prop}
    (h : Q (newEnv scope s.heap.objs.size globals (cellsFrom (s.heap.objs.size + 1) scope.names closure) qual func code (some around) builtins)
      { s with heap := pushCells (s.heap.push { cls := .type "dict", data := .dict #[] }) scope.names }) :
    wpAny M A (newFunctionEnv scope globals closure [] qual func code (some around) builtins) Q E s := by
  simp only [newFunctionEnv, Option.isSome_some, if_true]
  refine wpAny_bind (wpAny_alloc ?_)
  refine wpAny_bind (wpAny_layCells _ (fun n k c => rfl) scope.names closure _ _ ?_)
  rw [show ({ s with heap := s.heap.push { cls := .type "dict", data := .dict #[] } } : Shared).heap.objs.size = s.heap.objs.size + 1 from Heap.size_push ..]
  rw [List.forIn_nil]
  exact wpAny_bind (wpAny_pure (wpAny_pure h))
theorem lookup_relS {sc : Scope} : ∀ {names : List (Str × NameKind)} {x : Str} {k : NameKind},
    (names.map fun (n, k) => if (k == NameKind.free && sc.kind == .function && sc.names.lookup n == some .cell) then (n, NameKind.cell) else (n, k)).lookup x = some k →
    ∃ k', names.lookup x = some k' ∧ (k = k' ∨ (k' = .free ∧ k = .cell))
  | [], _, _, h => by simp at h
  | (n, k₀) :: r, x, k, h => by
    have ih := @lookup_relS sc r x k
    have h' : List.lookup x ((if (k₀ == NameKind.free && sc.kind == .function && sc.names.lookup n == some .cell) = true then (n, NameKind.cell) else (n, k₀)) :: (r.map _)) = some k := h
    cases hx : x == n with
    | true =>
      simp only [List.lookup_cons, hx]
      by_cases hc : (k₀ == NameKind.free && sc.kind == .function && sc.names.lookup n == some .cell) = true
      · rw [if_pos hc] at h'
        simp only [List.lookup_cons, hx] at h'
        cases h'
        simp only [Bool.and_eq_true, beq_iff_eq] at hc
        exact ⟨k₀, rfl, .inr ⟨hc.1.1, rfl⟩⟩
      · rw [if_neg hc] at h'
        simp only [List.lookup_cons, hx] at h'
        cases h'
        exact ⟨_, rfl, .inl rfl⟩
    | false =>
      simp only [List.lookup_cons, hx]
      by_cases hc : (k₀ == NameKind.free && sc.kind == .function && sc.names.lookup n == some .cell) = true
      · rw [if_pos hc] at h'
        simp only [List.lookup_cons, hx] at h'
        exact ih h'
      · rw [if_neg hc] at h'
        simp only [List.lookup_cons, hx] at h'
        exact ih h'
structure BlkOk (N : List Str) (sc scope : Scope) (own : List (Str × Nat)) : Prop where
  kind : scope.kind = .function
  uniq : ∀ y ∈ scope.names, scope.names.lookup y.1 = some y.2
  ix : ∀ p ∈ own, N[p.2]? = some p.1
  free : ∀ y ∈ scope.names, y.2 = .free → sc.names.lookup y.1 = some .cell ∨ sc.names.lookup y.1 = some .free
  own : ∀ y ∈ scope.names, y.2 = .local ∨ y.2 = .cell → y.1 ∈ own.map (·.1) ∨ y.1 ∉ N
def wipe (σ : St) : List Nat → St
  | [] => σ
  | v :: vs => (wipe σ vs).set v none
theorem wipe_length (σ : St) : ∀ vs : List Nat, (wipe σ vs).length = σ.length
  | [] => rfl
  | v :: vs => by unfold wipe; rw [List.length_set, wipe_length σ vs]
theorem wipe_some {σ : St} {i : Nat} {x : V} : ∀ {vs : List Nat}, (wipe σ vs)[i]? = some (some x) → σ[i]? = some (some x) ∧ i ∉ vs
  | [], h => ⟨h, by simp⟩
  | v :: vs, h => by
    unfold wipe at h
    by_cases hi : v = i
    · subst hi
      by_cases hv : v < (wipe σ vs).length
      · rw [List.getElem?_set_self hv] at h; cases h
      · rw [List.getElem?_eq_none (by simpa using hv)] at h; cases h
    · rw [List.getElem?_set_ne hi] at h
      obtain ⟨h1, h2⟩ := wipe_some h
      exact ⟨h1, by simp only [List.mem_cons, not_or]; exact ⟨fun e => hi e.symm, h2⟩⟩
abbrev Cx.blk (X : Cx) (s : Shared) (H : Hp) (scope : Scope) (cenv : Env) (fp : List Addr) : Cx := { X with s_0 := s, H_0 := H, env := cenv, outer := X.stack, ex := fp, fn := fun x => scope.names.lookup x == some .cell, pn := [], xe := fun _ _ => False }
section
variable {X : Cx} {pins : List (Addr × Obj)} {σ : St} {H : Hp} {s : Shared}
theorem block_start {scope : Scope} {own : List (Str × Nat)} {fp : List Addr} (I : Inv X pins σ H s) (ok : BlkOk X.N X.env.scope scope own) (hN : X.N.Nodup) (hfp : ∀ b ∈ fp, FpOk X pins H b ∧ b < s.heap.objs.size) :
    Inv (X.blk s H scope (compEnvC scope (cellsFrom (s.heap.objs.size + 1) scope.names (cloFrom X.env.cells scope.names [])) s.heap.objs.size X.env) fp) [] (wipe σ (own.map (·.2))) H { s with heap := pushCells (s.heap.push { cls := .type "dict", data := .dict #[] }) scope.names } := by
  have hfree : ∀ y ∈ scope.names, y.2 = .free → ∃ c, X.env.cells.lookup y.1 = some c := fun y hy e => by
    rcases ok.free y hy e with k | k
    · exact I.ok.has _ (.inl k)
    · exact I.ok.has _ (.inr k)
  generalize hcenv : compEnvC scope (cellsFrom (s.heap.objs.size + 1) scope.names (cloFrom X.env.cells scope.names [])) s.heap.objs.size X.env = cenv
  have kp : ∀ b o, s.heap.get? b = some o → (pushCells (s.heap.push { cls := .type "dict", data := .dict #[] }) scope.names).get? b = some o := fun b o e => pushCells_keeps _ _ _ _ (Heap.get?_push_of_some _ e)
  have hL : cenv.locals = s.heap.objs.size := by rw [← hcenv]; rfl
  have hcl : cenv.cells = cellsFrom (s.heap.objs.size + 1) scope.names (cloFrom X.env.cells scope.names []) := by rw [← hcenv]; rfl
  have hsc : cenv.scope = relS scope X.env.scope := by rw [← hcenv]; rfl
  rw [← Heap.size_push s.heap { cls := .type "dict", data := .dict #[] }] at hcl
  have cm : ∀ {y c}, (y, c) ∈ cloFrom X.env.cells scope.names [] → X.env.cells.lookup y = some c ∧ c < s.heap.objs.size := fun {y c} hm => by
    rcases cloFrom_mem hm with hm | ⟨h1, rfl⟩
    · cases hm
    · obtain ⟨c, hc⟩ := hfree _ h1 rfl
      rw [hc]
      obtain ⟨w, z⟩ := I.cell _ _ hc
      exact ⟨rfl, z.lt⟩
  have mem : ∀ {y c}, cenv.cells.lookup y = some c → (X.env.cells.lookup y = some c ∧ c < s.heap.objs.size) ∨ (s.heap.objs.size + 1 ≤ c ∧ CellAt (pushCells (s.heap.push { cls := .type "dict", data := .dict #[] }) scope.names) c none) := fun {y c} e => by
    rw [hcl] at e
    rcases cells_mem (PySem.mem_of_lookup e) with hm | ⟨_, h2, h3⟩
    · exact .inl (cm hm)
    · rw [Heap.size_push] at h2; exact .inr ⟨h2, h3⟩
  have look : ∀ {y}, scope.names.lookup y = some .free → ∃ c, cenv.cells.lookup y = some c ∧ X.env.cells.lookup y = some c := fun {y} hl => by
    have hy : (y, NameKind.free) ∈ scope.names := PySem.mem_of_lookup hl
    obtain ⟨c', e'⟩ := mem_lookup (cells_acc (names := scope.names) (n := (s.heap.push { cls := .type "dict", data := .dict #[] }).objs.size) (cloFrom_has (cells := X.env.cells) (acc := []) hy))
    rw [← hcl] at e'
    refine ⟨c', e', ?_⟩
    rw [hcl] at e'
    rcases cells_mem (PySem.mem_of_lookup e') with hm | ⟨h1, _, _⟩
    · exact (cm hm).1
    · have := ok.uniq _ h1
      rw [hl] at this; cases this
  have okB : (X.blk s H scope cenv fp).Ok := by
    refine ⟨I.ok.mod, by show cenv.scope.kind = _; rw [hsc]; exact ok.kind, by show cenv.globals = _; rw [← hcenv]; exact I.ok.glob, by show cenv.builtins = _; rw [← hcenv]; exact I.ok.blt, by show s.heap.objs.size ≤ cenv.locals; rw [hL]; exact Nat.le_refl _,
      fun y z c e1 e2 => ?_, fun y hy => ?_, fun y c z e => ?_, I.ok.hd, I.ok.frames, .inl rfl, fun b hb => ⟨?_, fun y c e z => ?_⟩, I.bs, Nat.le_trans I.ok.bsz I.sz, fun b o e hb => ?_, fun b hb z => ?_, I.stack, I.stkFree⟩
    · have e1 : cenv.cells.lookup y = some c := e1
      have e2 : cenv.cells.lookup z = some c := e2
      rw [hcl] at e1 e2
      refine cells_inj (fun p hp => ?_) (fun y z c a b => I.ok.inj y z c (cm a).1 (cm b).1) (PySem.mem_of_lookup e1) (PySem.mem_of_lookup e2)
      rw [Heap.size_push]
      exact Nat.lt_succ_of_lt (cm (y := p.1) (c := p.2) hp).2
    · show ∃ c, cenv.cells.lookup y = some c
      have key : ∀ k, cenv.kindOf y = some k → (k = .cell ∨ k = .free) → ∃ c, cenv.cells.lookup y = some c := fun k hk hk' => by
        unfold Env.kindOf at hk
        rw [hsc] at hk
        obtain ⟨k', e, r⟩ := lookup_relS hk
        have : k' = .cell ∨ k' = .free := by
          rcases r with rfl | ⟨rfl, _⟩
          · exact hk'
          · exact .inr rfl
        rcases this with rfl | rfl
        · obtain ⟨c, hm⟩ := cells_has (n := (s.heap.push { cls := .type "dict", data := .dict #[] }).objs.size) (acc := cloFrom X.env.cells scope.names []) (PySem.mem_of_lookup e)
          obtain ⟨c', e'⟩ := mem_lookup hm
          exact ⟨c', by rw [hcl]; exact e'⟩
        · obtain ⟨c, h1, _⟩ := look e
          exact ⟨c, h1⟩
      rcases hy with hy | hy
      · exact key _ hy (.inl rfl)
      · exact key _ hy (.inr rfl)
    · have z : (scope.names.lookup y == some NameKind.cell) = true := z
      have z : scope.names.lookup y = some .cell := by simpa using z
      have e : cenv.cells.lookup y = some c := e
      rw [hcl] at e
      rcases cells_mem (PySem.mem_of_lookup e) with hm | ⟨_, h2, _⟩
      · rcases cloFrom_mem hm with hm | ⟨h1, _⟩
        · cases hm
        · have q := ok.uniq _ h1
          rw [z] at q; cases q
      · rw [Heap.size_push] at h2
        exact Nat.le_of_succ_le h2
    · show b ≠ cenv.locals
      rw [hL]; exact Nat.ne_of_lt (hfp b hb).2
    · have e : cenv.cells.lookup y = some c := e
      rcases mem e with ⟨h1, _⟩ | ⟨h1, _⟩
      · exact (hfp b hb).1.2.2.2.2.1 y c h1 z
      · have h2 : s.heap.objs.size + 1 ≤ b := by rw [← z]; exact h1
        exact absurd (Nat.lt_of_lt_of_le (hfp b hb).2 (Nat.le_of_succ_le h2)) (Nat.lt_irrefl _)
    · rcases (hfp b hb).1.2.2.2.1 with z | z
      · exact I.ok.noex b o e z
      · exact absurd (Nat.lt_of_lt_of_le (Heap.lt_size e) (Nat.le_trans I.ok.bsz z)) (Nat.lt_irrefl _)
    · rcases List.mem_cons.mp (I.stkSub b z) with z | z
      · exact (hfp b hb).1.2.1 z
      · exact (hfp b hb).1.2.2.1 z
  refine ⟨okB, rfl, I.bare, Un.kept kp, ⟨fun _ => none, ?_, fun i y av e1 e2 e3 => ?_⟩, fun y c e => ?_, ?_, fun y c e => ?_, fun p hp => ?_, I.hok.kept kp, by rw [wipe_length]; exact I.len⟩
  · show Heap.Ns _ cenv.locals _
    rw [hL]
    exact Heap.Ns.keeps (Heap.Ns.new ..) fun b o e => pushCells_keeps _ _ _ _ e
  · obtain ⟨e2, hne⟩ := wipe_some e2
    have hfr : scope.names.lookup y = some .free ∧ (cenv.kindOf y = some .cell ∨ cenv.kindOf y = some .free) := by
      have key : ∀ k, cenv.scope.names.lookup y = some k → k = .local ∨ k = .cell ∨ k = .free → scope.names.lookup y = some .free ∧ (cenv.kindOf y = some .cell ∨ cenv.kindOf y = some .free) := fun k hk hk' => by
        have hk0 := hk
        rw [hsc] at hk
        obtain ⟨k', e, r⟩ := lookup_relS hk
        have no : ¬ (k' = .local ∨ k' = .cell) := fun hh => by
          rcases ok.own _ (PySem.mem_of_lookup e) hh with e' | e'
          · obtain ⟨p, hp, hpy⟩ := List.mem_map.mp e'
            have e3 := ok.ix p hp
            have : p.1 = y := hpy
            rw [this] at e3
            exact hne (List.mem_map.mpr ⟨p, hp, nodup_ix hN e3 e1⟩)
          · exact e' (List.mem_of_getElem? e1)
        rcases r with rfl | ⟨rfl, rfl⟩
        · rcases hk' with rfl | rfl | rfl
          · exact absurd (.inl rfl) no
          · exact absurd (.inr rfl) no
          · exact ⟨e, .inr hk0⟩
        · exact ⟨e, .inl hk0⟩
      have e3 : Vis cenv.scope y := e3
      rcases e3 with e3 | e3 | e3
      · exact key _ e3 (.inl rfl)
      · exact key _ e3 (.inr (.inl rfl))
      · exact key _ e3 (.inr (.inr rfl))
    obtain ⟨m, hn, hl⟩ := I.loc
    have hvis : Vis X.env.scope y := (ok.free _ (PySem.mem_of_lookup hfr.1) rfl).elim (fun k => .inr (.inl k)) (fun k => .inr (.inr k))
    obtain ⟨w, r, q⟩ := hl i y av e1 e2 hvis
    refine ⟨w, r, .inr ⟨hfr.2, ?_⟩⟩
    obtain ⟨c, h1, h2⟩ := look hfr.1
    rcases q with ⟨k, _⟩ | ⟨_, c', e', z⟩
    · have k : X.env.scope.names.lookup y = some .local := k
      rcases ok.free _ (PySem.mem_of_lookup hfr.1) rfl with k' | k' <;> rw [show X.env.scope.names.lookup y = _ from k'] at k <;> cases k
    · rw [h2] at e'; cases e'
      exact ⟨c, h1, z.keeps kp⟩
  · have e : cenv.cells.lookup y = some c := e
    rcases mem e with ⟨h1, _⟩ | ⟨_, z⟩
    · obtain ⟨w, z⟩ := I.cell y c h1
      exact ⟨w, z.keeps kp⟩
    · exact ⟨_, z⟩
  · show H cenv.locals = none
    rw [hL]; exact I.hok.fresh (Nat.le_refl _)
  · have e : cenv.cells.lookup y = some c := e
    rcases mem e with ⟨h1, _⟩ | ⟨h1, _⟩
    · exact I.freeC y c h1
    · exact I.hok.fresh (Nat.le_of_succ_le h1)
  · exact absurd (show p ∈ ([] : List (Addr × Obj)) ++ [] from hp) (by simp)
theorem app_ok {E : Value → Shared → Prop} {D : Addr} {xs : List V} {y : V} {v : Value} {Q : Value → Shared → Prop} (I : Inv X pins σ H s) (hD : H D = some (.lst xs)) (hz : xs.length < sizeLine) (r : RelV y v)
    (h : ∀ s', Inv X pins σ (upd H D (.lst (xs ++ [y]))) s' → Q .none s') : wpAny (model X.prog X.w) X.A (call (.builtin "list.append") [.ref D, v]) Q E s := by
  obtain ⟨hz', its, n, ri, e⟩ := I.hok D _ hD
  have hl := ri.length
  refine append_at (hsz := by rw [List.size_toArray]; trivial) e fun h' sb ho' => ?_
  refine h { s with heap := h' } (I.write (t' := s.toks) (by rw [hD]; trivial) (.inl rfl) (fun b u hb q => (sb.2 b hb).trans q) ⟨_, ho'⟩ ⟨by rw [List.length_append]; exact hz, its ++ [v], n + 1, ri.append (.cons r .nil), ?_⟩)
  rw [ho']
  simp
def PTs (X : Cx) (ifs : List Expr) (t : TT) : Prop :=
  ∀ (pins : List (Addr × Obj)) (s : Shared) (σ : St) (H : Hp) (Q : Bool → Hp → Prop), Inv X pins σ H s → t σ H Q →
    wpAny (model X.prog X.w) X.A (forIn ifs true fun c r => if r = true then do let ok ← isTrue c X.env (eval c X.env); pure (ForInStep.yield ok) else pure (ForInStep.yield r)) (TP X pins σ Q) X.xe s
def tYes : TT := fun _ H Q => Q true H
theorem pts_nil : PTs X [] tYes := fun _ _ _ H _ I h => wpAny_tests_nil ⟨H, I, h⟩
theorem pts_one {c : Expr} {t : TT} (h : PT X c t) : PTs X [c] t := fun pins s σ H Q I hw => wpAny_tests_one (h pins s σ H Q I hw)
end
theorem thnF {α : Type} {t : Sem α} {Q Q' : α → Shared → Prop} {M : Model} {A : Around} {E : Value → Shared → Prop} {s : Shared} (h : wpAny M A t Q (fun _ _ => False) s) (hQ : ∀ a s, Q a s → Q' a s) : wpAny M A t Q' E s := wpAny_mono h hQ fun _ _ z => False.elim z
theorem compLoop_any {prog : Program} {w : World} {A : Around} {R : Result → Shared → Prop} {s : Shared} {elt target iter : Expr} {ifs : List Expr} {scope : Scope} {pos : Pos} {it acc : Value} {env : Env} (I : Nat → Shared → Prop)
    (turn : ∀ n s, I n s → wpAny (model prog w) A (pyNext it) (fun r s₁ => match r with
      | none => R (.ok .next) s₁
      | some v => wpAny (model prog w) A (letOwnedTupleGo target it v) (fun _ s₁' => wpAny (model prog w) A (assign target env v) (fun _ s₂ =>
          wpAny (model prog w) A (forIn ifs true fun c r => if r = true then do let ok ← isTrue c env (eval c env); pure (ForInStep.yield ok) else pure (ForInStep.yield r)) (fun ok s₃ =>
            if ok = true then wpAny (model prog w) A (eval elt env) (fun x s₄ =>
              wpAny (model prog w) A (call (.builtin "list.append") [acc, x]) (fun _ s₅ => ∃ m, m < n ∧ I m s₅) (notedBy (model prog w) A env fun e s' => R (.error e) s') s₄) (notedBy (model prog w) A env fun e s' => R (.error e) s') s₃
            else ∃ m, m < n ∧ I m s₃) (notedBy (model prog w) A env fun e s' => R (.error e) s') s₂) (notedBy (model prog w) A env fun e s' => R (.error e) s') s₁') (notedBy (model prog w) A env fun e s' => R (.error e) s') s₁) (notedBy (model prog w) A env fun e s' => R (.error e) s') s)
    (n : Nat) (h : I n s) :
    codeAny (model prog w) A (.compLoop (.ListComp elt [⟨target, iter, ifs, 0⟩] scope pos) 0 it acc env) R s := by
  refine codeAny_loop rfl I (fun n s hI => ?_) n h
  show wpAny _ A ((compTurn (.ListComp elt [⟨target, iter, ifs, 0⟩] scope pos) 0 it acc env).onRaise (fun x => do noteFrame x env; theTreesLotGoes x)) _ _ s
  refine wpAny_noted ?_
  rw [compTurn_list]
  refine wpAny_bind (wpAny_standAt (wpAny_bind (wpAny_mono (turn n s hI) (fun r s₁ h₁ => ?_) fun _ _ h' => h')))
  cases r with
  | none => exact wpAny_pure h₁
  | some v =>
    refine wpAny_bind (wpAny_mono h₁ (fun _ s₁' h₁' => ?_) fun _ _ h' => h')
    refine wpAny_bind (wpAny_mono h₁' (fun _ s₂ h₂ => wpAny_bind (wpAny_mono h₂ (fun ok s₃ h₃ => ?_) fun _ _ h' => h')) fun _ _ h' => h')
    cases ok with
    | false => exact wpAny_pure ⟨rfl, h₃⟩
    | true =>
      exact wpAny_bind (wpAny_bind (wpAny_mono h₃ (fun x s₄ h₄ => wpAny_bind (wpAny_mono h₄ (fun _ s₅ h₅ => wpAny_pure (wpAny_pure ⟨rfl, h₅⟩)) fun _ _ h' => h')) fun _ _ h' => h'))
section
variable {X : Cx}
def tLc (wi : TI) (g : TG) (tt : TT) (te : TE) (vs : List Nat) : TE := fun σ H Q => wi σ H fun J H1 => ∀ D, H1 D = none → ∃ W : Nat → Nat → Hp → Prop, (∃ m, W 0 m (upd H1 D (.lst []))) ∧ ∀ i m H, W i m H →
  (J.stop i H ∧ Q (.ref D) H) ∨ (J.go i H ∧ ∃ Nx : Hp → Prop, (∀ H', Nx H' → ∃ m', m' < m ∧ W (i + 1) m' H') ∧ ∀ x H', J.yld i H x H' → g x (wipe σ vs) H' fun σ2 H2 => wipe σ2 vs = wipe σ vs ∧ tt σ2 H2 fun b H3 =>
    if b = true then te σ2 H3 fun y H4 => ∃ acc, H4 D = some (.lst acc) ∧ acc.length < sizeLine ∧ Nx (upd H4 D (.lst (acc ++ [y]))) else Nx H3)
theorem lc_core {pins : List (Addr × Obj)} {s : Shared} {σ : St} {H : Hp} {Q : VK} {elt tg iter : Expr} {ifs : List Expr} {scope : Scope} {own : List (Str × Nat)} {pos pos' : Pos} {wi : TI} {g : TG} {tt : TT} {te : TE} {use : Option (Value → Sem Unit)} {Qf : Value → Shared → Prop}
    (hc : X.calm = true) (hN : X.N.Nodup) (I : Inv X pins σ H s) (hi : PI X tg iter wi) (ok : BlkOk X.N X.env.scope scope own)
    (hg : ∀ (s : Shared) (H : Hp) (C : Addr) (cl : List (Str × Addr)) (fp : List Addr), PG (X.blk s H scope (compEnvC scope cl C X.env) fp) tg g) (ht : ∀ (s : Shared) (H : Hp) (C : Addr) (cl : List (Str × Addr)) (fp : List Addr), PTs (X.blk s H scope (compEnvC scope cl C X.env) fp) ifs tt)
    (he : ∀ (s : Shared) (H : Hp) (C : Addr) (cl : List (Str × Addr)) (fp : List Addr), PE (X.blk s H scope (compEnvC scope cl C X.env) fp) elt te) (hs : ∀ x, foldedSetIterable iter X.env x = pure x)
    (h : tLc wi g tt te (own.map (·.2)) σ H Q)
    (hRR : ∀ D C s' m H', Inv X pins σ H' s' → Q (.ref D) H' → s'.heap.Ns C m → FpOk X pins H' C → compPost (model X.prog X.w) X.A X.xe use Qf (.ref D) C (.ok .next) s') :
    wpAny (model X.prog X.w) X.A (comprehension (.ListComp elt [⟨tg, iter, ifs, 0⟩] scope pos) scope X.env pos' (newList []) false (eval iter X.env) use) Qf X.xe s := by
  have hfree : ∀ y ∈ scope.names, y.2 = .free → ∃ c, X.env.cells.lookup y.1 = some c := fun y hy e => by
    rcases ok.free y hy e with k | k
    · exact I.ok.has _ (.inl k)
    · exact I.ok.has _ (.inr k)
  refine wpAny_comprehension_free (use := use) rfl hs (closure_ok hfree) ok.kind (fun y hy e => by rw [ok.uniq y hy, e])
    (thn (hi pins s σ H _ I h) fun xv s1 hx => thn hx fun itv s2 h2 => ?_)
  obtain ⟨it, fp, tn, J, H2, e, I2, T, st2, f2, q⟩ := h2
  subst e
  refine wpAny_newObj_type (newEnv_comp ?_) (by show 0 ≤ sizeLine; decide)
  generalize hD : s2.heap.objs.size = D
  have hDn : H2 D = none := I2.hok.fresh (Nat.le_of_eq hD)
  obtain ⟨W, ⟨m0, w0⟩, turn⟩ := q D hDn
  generalize hs3 : ({ s2 with heap := s2.heap.push { cls := .type "list", data := .seq ([] : List Value).toArray } } : Shared) = s3
  have I3 : Inv X pins σ (upd H2 D (.lst [])) s3 := by
    rw [← hs3]
    refine I2.laid (t' := s2.toks) (fun b o e => Heap.get?_push_of_some _ e) (Nat.le_of_eq hD) ⟨Nat.zero_le _, [], 0, .nil, ?_⟩
    rw [← hD]
    exact Heap.get?_push_size _ rfl
  have h3 : s3.heap = s2.heap.push { cls := .type "list", data := .seq ([] : List Value).toArray } := by rw [← hs3]
  have sz : ∀ b ∈ fp, b < s2.heap.objs.size := fun b hb => by
    obtain ⟨o, e, _⟩ := T.obj _ _ st2 b hb
    exact Heap.lt_size e
  have f3 : ∀ b ∈ fp, FpOk X pins (upd H2 D (.lst [])) b ∧ b < s3.heap.objs.size := fun b hb => by
    have hlt := sz b hb
    refine ⟨⟨?_, (f2 b hb).2⟩, by rw [h3, Heap.size_push]; exact Nat.lt_succ_of_lt hlt⟩
    rw [upd_ne (by rw [← hD]; exact Nat.ne_of_lt hlt)]
    exact (f2 b hb).1
  have st3 : tn 0 s3.heap := T.keep _ _ _ st2 fun b _ o e => by rw [h3]; exact Heap.get?_push_of_some _ e
  have I4 := block_start I3 ok hN f3
  have pg := hg s3 (upd H2 D (.lst [])) s3.heap.objs.size (cellsFrom (s3.heap.objs.size + 1) scope.names (cloFrom X.env.cells scope.names [])) fp
  have pt := ht s3 (upd H2 D (.lst [])) s3.heap.objs.size (cellsFrom (s3.heap.objs.size + 1) scope.names (cloFrom X.env.cells scope.names [])) fp
  have pe := he s3 (upd H2 D (.lst [])) s3.heap.objs.size (cellsFrom (s3.heap.objs.size + 1) scope.names (cloFrom X.env.cells scope.names [])) fp
  show codeAny _ _ (.compStart (.ListComp elt [⟨tg, iter, ifs, 0⟩] scope pos) 0 (.ref it) (.ref D) (compEnvC scope (cellsFrom (s3.heap.objs.size + 1) scope.names (cloFrom X.env.cells scope.names [])) s3.heap.objs.size X.env)) (compPost (model X.prog X.w) X.A X.xe use Qf (.ref D) s3.heap.objs.size) { s3 with heap := pushCells (s3.heap.push { cls := .type "dict", data := .dict #[] }) scope.names }
  have nfp : ∀ b ∈ fp, (upd H2 D (.lst [])) b = none := fun b hb => (f3 b hb).1.1
  generalize hce : compEnvC scope (cellsFrom (s3.heap.objs.size + 1) scope.names (cloFrom X.env.cells scope.names [])) s3.heap.objs.size X.env = ce at I4 pg pt pe ⊢
  have cL : ce.locals = s3.heap.objs.size := by subst hce; rfl
  generalize hH3 : upd H2 D (.lst []) = H3 at I3 I4 pg pt pe w0 nfp f3
  generalize hs4 : ({ s3 with heap := pushCells (s3.heap.push { cls := .type "dict", data := .dict #[] }) scope.names } : Shared) = s4 at I4 ⊢
  have st4 : tn 0 s4.heap := T.keep _ _ _ st3 fun b _ o e => by rw [← hs4]; exact pushCells_keeps _ _ _ _ (Heap.get?_push_of_some _ e)
  have stat : ∀ {σ' : St} {H' : Hp} {s' : Shared}, Inv (X.blk s3 H3 scope ce fp) [] σ' H' s' → (∀ b ∈ fp, H' b = none) → ∀ b ∈ fp, FpOk (X.blk s3 H3 scope ce fp) [] H' b := fun {σ' H' s'} I' hn b hb =>
    ⟨hn b hb, (I'.ok.exf b hb).1, I'.ok.exfs b hb, .inl hb, fun x c e => (I'.ok.exf b hb).2 x c e, fun p hp => absurd (show p ∈ ([] : List (Addr × Obj)) ++ [] from hp) (by simp)⟩
  have loop : codeAny (model X.prog X.w) X.A (.compLoop (.ListComp elt [⟨tg, iter, ifs, 0⟩] scope pos) 0 (.ref it) (.ref D) ce) (compPost (model X.prog X.w) X.A X.xe use Qf (.ref D) s3.heap.objs.size) s4 := by
    refine compLoop_any (fun n s' => ∃ i H', Inv (X.blk s3 H3 scope ce fp) [] (wipe σ (own.map (·.2))) H' s' ∧ tn i s'.heap ∧ (∀ b ∈ fp, H' b = none) ∧ W i n H') ?_ m0 ⟨0, H3, I4, st4, nfp, w0⟩
    rintro n s5 ⟨i, H5, I5, st5, n5, w5⟩
    rcases turn i n H5 w5 with ⟨stop, qq⟩ | ⟨go, Nx, hNx, step⟩
    · have td := T.done (X.blk s3 H3 scope ce fp) rfl rfl rfl hc i [] s5 _ H5 (fun _ _ => False) I5 (stat I5 n5) st5 stop
      refine thnF td fun r s6 ⟨hr, I6⟩ => ?_
      subst hr
      have I7 : Inv X pins σ H5 s6 := I3.call' (ch := fp) I6.os I6.base I6.hok I6.bare fun b hb => ⟨(f3 b hb).1.2.2.2.1, (f3 b hb).1.2.1, (f3 b hb).1.2.2.2.2.1, (f3 b hb).1.2.2.2.2.2⟩
      have nC : H5 s3.heap.objs.size = none := by
        have z : H5 ce.locals = none := I6.free
        rw [cL] at z
        exact z
      obtain ⟨m, hn, _⟩ := I6.loc
      have hn : s6.heap.Ns ce.locals m := hn
      rw [cL] at hn
      exact hRR D s3.heap.objs.size s6 m H5 I7 qq hn (I3.fpOk (Nat.le_refl _) nC)
    · have ti := T.item (X.blk s3 H3 scope ce fp) rfl rfl rfl hc i [] s5 _ H5 (fun _ _ => False) I5 (stat I5 n5) st5 go
      refine thnF ti fun r s6 ⟨u, hr, h6⟩ => ?_
      subst hr
      refine thnF h6 fun _ s7 ⟨x, H7, I7, r7, y7, st7, n7⟩ => ?_
      have I7' := I7.pinned (stat I7 n7) (T.obj _ _ st7)
      refine thnF (pg _ s7 _ H7 x u _ I7' r7 (step x H7 y7)) fun _ s8 ⟨σ8, H8, I8, hw8, q8⟩ => ?_
      refine thnF (pt _ s8 σ8 H8 _ I8 q8) fun b s9 ⟨H9, I9, q9⟩ => ?_
      have fin : ∀ {s' : Shared} {H' : Hp}, Inv (X.blk s3 H3 scope ce fp) ([] ++ pinsAt fp s7.heap) σ8 H' s' → Nx H' → ∃ m, m < n ∧ ∃ i H', Inv (X.blk s3 H3 scope ce fp) [] (wipe σ (own.map (·.2))) H' s' ∧ tn i s'.heap ∧ (∀ b ∈ fp, H' b = none) ∧ W i m H' := fun {s' H'} I' nx => by
        obtain ⟨m', hm, w'⟩ := hNx H' nx
        have pin' : ∀ b ∈ fp, ∀ o, s7.heap.get? b = some o → s'.heap.get? b = some o ∧ H' b = none := fun b hb o e =>
          let z := I'.pin (b, o) (List.mem_append_right _ (List.mem_append_right _ (mem_pinsAt hb e)))
          ⟨z.1, z.2.1⟩
        have hl : (wipe σ (own.map (·.2))).length = σ8.length := by rw [← hw8, wipe_length]
        refine ⟨m', hm, i + 1, H', (I'.unpinned (pins := [])).weak hl (fun j v e => ?_), T.keep _ _ _ st7 fun b hb o e => (pin' b hb o e).1, fun b hb => ?_, w'⟩
        · rw [← hw8] at e
          exact (wipe_some e).1
        · obtain ⟨o, e, _⟩ := T.obj _ _ st7 b hb
          exact (pin' b hb o e).2
      cases b with
      | false =>
        simp only [Bool.false_eq_true, if_false] at q9 ⊢
        exact fin I9 q9
      | true =>
        simp only [if_true] at q9 ⊢
        refine thnF (pe _ s9 σ8 H9 _ I9 q9) fun z s10 ⟨yv, H10, I10, r10, acc, hD10, hz10, nx⟩ => ?_
        exact app_ok (X := X.blk s3 H3 scope ce fp) I10 hD10 hz10 r10 fun s11 I11 => fin I11 nx
  exact codeAny_compStart_list loop (T.self X.A 0 _ _ _ st4 loop)
theorem pe_lc {elt tg iter : Expr} {ifs : List Expr} {scope : Scope} {own : List (Str × Nat)} {pos : Pos} {wi : TI} {g : TG} {tt : TT} {te : TE} (hc : X.calm = true) (hN : X.N.Nodup) (hi : PI X tg iter wi) (ok : BlkOk X.N X.env.scope scope own)
    (hg : ∀ (s : Shared) (H : Hp) (C : Addr) (cl : List (Str × Addr)) (fp : List Addr), PG (X.blk s H scope (compEnvC scope cl C X.env) fp) tg g) (ht : ∀ (s : Shared) (H : Hp) (C : Addr) (cl : List (Str × Addr)) (fp : List Addr), PTs (X.blk s H scope (compEnvC scope cl C X.env) fp) ifs tt)
    (he : ∀ (s : Shared) (H : Hp) (C : Addr) (cl : List (Str × Addr)) (fp : List Addr), PE (X.blk s H scope (compEnvC scope cl C X.env) fp) elt te) (hs : ∀ x, foldedSetIterable iter X.env x = pure x := by intro _; rfl) :
    PE X (.ListComp elt [⟨tg, iter, ifs, 0⟩] scope pos) (tLc wi g tt te (own.map (·.2))) := by
  intro pins s σ H Q I h
  rw [eval_ListComp]
  refine lc_core hc hN I hi ok hg ht he hs h fun D C s' m H' I' q hn f => ⟨m, hn, fun h'' sb => ?_⟩
  obtain ⟨f0, f1, f2, f3, f4, f5⟩ := f
  exact ⟨.ref D, H', I'.turned (t' := s'.toks) (fun b o hb e => (sb.2 b hb).trans e) f0 f1 f3 f4 f5, rfl, q⟩
theorem ps_setLc {i : Nat} {y : Str} {py : Pos} {elt tg iter : Expr} {ifs : List Expr} {scope : Scope} {own : List (Str × Nat)} {pos spos : Pos} {wi : TI} {g : TG} {tt : TT} {te : TE} (hc : X.calm = true) (hN : X.N.Nodup) (hy : X.N[i]? = some y) (hyl : X.env.scope.names.lookup y = some .local)
    (hsw : swapsWith (.ListComp elt [⟨tg, iter, ifs, 0⟩] scope pos) (some (.Name y py)) spos.line X.env = pure true) (hi : PI X tg iter wi) (ok : BlkOk X.N X.env.scope scope own)
    (hg : ∀ (s : Shared) (H : Hp) (C : Addr) (cl : List (Str × Addr)) (fp : List Addr), PG (X.blk s H scope (compEnvC scope cl C X.env) fp) tg g) (ht : ∀ (s : Shared) (H : Hp) (C : Addr) (cl : List (Str × Addr)) (fp : List Addr), PTs (X.blk s H scope (compEnvC scope cl C X.env) fp) ifs tt)
    (he : ∀ (s : Shared) (H : Hp) (C : Addr) (cl : List (Str × Addr)) (fp : List Addr), PE (X.blk s H scope (compEnvC scope cl C X.env) fp) elt te) (hs : ∀ x, foldedSetIterable iter X.env x = pure x := by intro _; rfl) :
    PS X (.Assign [.Name y py] (.ListComp elt [⟨tg, iter, ifs, 0⟩] scope pos) spos) (tAsg (tLc wi g tt te (own.map (·.2))) (gName i)) := by
  intro pins s σ H D I h
  rw [exec_Assign_Name_used _ _ _ _ hsw]
  refine wpAny_bind (wpAny_standAt (wpAny_bind ?_))
  show wpAny _ X.A (do let _ ← comprehension (.ListComp elt [⟨tg, iter, ifs, 0⟩] scope pos) scope X.env (firstIterPos [⟨tg, iter, ifs, 0⟩] pos) (newList []) false (eval iter X.env) (some (assign (.Name y py) X.env))) _ _ s
  have h : tLc wi g tt te (own.map (·.2)) σ H (fun x H1 => gName i x σ H1 D.nx) := h
  refine wpAny_bind (thn (lc_core (Qf := fun _ s' => SP X pins D .next s') hc hN I hi ok hg ht he hs h fun L C s' m H' I' q hn f => ?_) fun _ s' hq => wpAny_pure (wpAny_pure hq))
  show wpAny _ _ (assign (.Name y py) X.env (.ref L)) _ _ _
  refine wpAny_assign_Name (store_ok2 (v := V.ref L) I' hN hy (.inl hyl) rfl (fun s2 I2 ⟨a, sb, ha⟩ => ?_) (.inr hyl))
  obtain ⟨f0, f1, f2, f3, f4, f5⟩ := f
  have haC : C ≠ a := by
    rcases ha with z | z
    · rw [z]; exact f1
    · exact fun e => f4 y a z e.symm
  refine ⟨m, hn.sameBut sb haC, fun h3 sb3 => ?_⟩
  exact ⟨_, H', I2.turned (t' := s2.toks) (fun b o hb e => (sb3.2 b hb).trans e) f0 f1 f3 f4 f5, q⟩
theorem sw_true {elt : Expr} {gs : List Comprehension} {scope : Scope} {pos py : Pos} {y : Str} {l : Nat} {env : Env} (hk : env.scope.kind = .function) (hy : env.scope.names.lookup y = some .local) (hl : (py.line == pos.line) = true)
    (ha : (scope.names.any fun (n, k) => n == y && (k == .local || k == .cell)) = false) : swapsWith (.ListComp elt gs scope pos) (some (.Name y py)) l env = pure true := by
  have ky : env.kindOf y = some .local := hy
  have hb : env.blockKind = .function := by unfold Env.blockKind; rw [hk]; rfl
  unfold swapsWith
  simp only [hb, ky, ha, Expr.pos, hl]
  rfl
end
theorem lc_range {lo : Int} {n : Nat} {g : TG} {tt : TT} {te : TE} {vs : List Nat} {σ : St} {H1 : Hp} {D : Addr} {Qd : Hp → Prop} (Pv : Nat → Hp → Prop) (h0 : Pv 0 (upd H1 D (.lst [])))
    (hs : ∀ i H, i < n → Pv i H → g (.int (lo + i)) (wipe σ vs) H fun σ2 H2 => wipe σ2 vs = wipe σ vs ∧ tt σ2 H2 fun b H3 =>
      if b = true then te σ2 H3 fun y H4 => ∃ acc, H4 D = some (.lst acc) ∧ acc.length < sizeLine ∧ Pv (i + 1) (upd H4 D (.lst (acc ++ [y]))) else Pv (i + 1) H3) (hd : ∀ H, Pv n H → Qd H) :
    ∃ W : Nat → Nat → Hp → Prop, (∃ m, W 0 m (upd H1 D (.lst []))) ∧ ∀ i m H, W i m H →
      ((Itr lo n).stop i H ∧ Qd H) ∨ ((Itr lo n).go i H ∧ ∃ Nx : Hp → Prop, (∀ H', Nx H' → ∃ m', m' < m ∧ W (i + 1) m' H') ∧ ∀ x H', (Itr lo n).yld i H x H' → g x (wipe σ vs) H' fun σ2 H2 => wipe σ2 vs = wipe σ vs ∧ tt σ2 H2 fun b H3 =>
        if b = true then te σ2 H3 fun y H4 => ∃ acc, H4 D = some (.lst acc) ∧ acc.length < sizeLine ∧ Nx (upd H4 D (.lst (acc ++ [y]))) else Nx H3) := by
  refine ⟨fun i m H => m = n - i ∧ i ≤ n ∧ Pv i H, ⟨n, by simp, Nat.zero_le _, h0⟩, ?_⟩
  rintro i m H ⟨rfl, hi, p⟩
  by_cases hlt : i < n
  · refine .inr ⟨hlt, Pv (i + 1), fun H' p' => ⟨n - (i + 1), by trivial, rfl, hlt, p'⟩, fun x H' y => ?_⟩
    obtain ⟨e, y⟩ := y
    subst e y
    exact hs i _ hlt p
  · have e : i = n := by trivial
    subst e
    exact .inl ⟨Nat.le_refl _, hd H p⟩
theorem lc_list {K : PySem.W.Frag} {a : Addr} {xs : List V} {g : TG} {tt : TT} {te : TE} {vs : List Nat} {σ : St} {H1 : Hp} {D : Addr} {Qd : Hp → Prop} (Pv : Nat → Hp → Prop) (h0 : Pv 0 (upd H1 D (.lst []))) (hl : ∀ i H, i ≤ xs.length → Pv i H → SqL K H a xs)
    (hs : ∀ i x H, xs[i]? = some x → Pv i H → g x (wipe σ vs) H fun σ2 H2 => wipe σ2 vs = wipe σ vs ∧ tt σ2 H2 fun b H3 =>
      if b = true then te σ2 H3 fun y H4 => ∃ acc, H4 D = some (.lst acc) ∧ acc.length < sizeLine ∧ Pv (i + 1) (upd H4 D (.lst (acc ++ [y]))) else Pv (i + 1) H3) (hd : ∀ H, Pv xs.length H → Qd H) :
    ∃ W : Nat → Nat → Hp → Prop, (∃ m, W 0 m (upd H1 D (.lst []))) ∧ ∀ i m H, W i m H →
      ((Itl K a).stop i H ∧ Qd H) ∨ ((Itl K a).go i H ∧ ∃ Nx : Hp → Prop, (∀ H', Nx H' → ∃ m', m' < m ∧ W (i + 1) m' H') ∧ ∀ x H', (Itl K a).yld i H x H' → g x (wipe σ vs) H' fun σ2 H2 => wipe σ2 vs = wipe σ vs ∧ tt σ2 H2 fun b H3 =>
        if b = true then te σ2 H3 fun y H4 => ∃ acc, H4 D = some (.lst acc) ∧ acc.length < sizeLine ∧ Nx (upd H4 D (.lst (acc ++ [y]))) else Nx H3) := by
  refine ⟨fun i m H => m = xs.length - i ∧ i ≤ xs.length ∧ Pv i H, ⟨xs.length, by simp, Nat.zero_le _, h0⟩, ?_⟩
  rintro i m H ⟨rfl, hi, p⟩
  have q := hl i H hi p
  by_cases hlt : i < xs.length
  · refine .inr ⟨⟨xs, xs[i], q, by simp [hlt]⟩, Pv (i + 1), fun H' p' => ⟨xs.length - (i + 1), by trivial, rfl, hlt, p'⟩, fun x H' y => ?_⟩
    obtain ⟨e, y⟩ := y
    subst e
    exact hs i x _ (y xs q) p
  · have e : i = xs.length := by trivial
    subst e
    exact .inl ⟨⟨xs, q, Nat.le_refl _⟩, hd H p⟩
theorem lc_tup {K : PySem.W.Frag} {a : Addr} {xs : List V} {g : TG} {tt : TT} {te : TE} {vs : List Nat} {σ : St} {H1 : Hp} {D : Addr} {Qd : Hp → Prop} (Pv : Nat → Hp → Prop) (h0 : Pv 0 (upd H1 D (.lst []))) (hl : ∀ i H, i ≤ xs.length → Pv i H → SqT K H a xs)
    (hs : ∀ i x H, xs[i]? = some x → Pv i H → g x (wipe σ vs) H fun σ2 H2 => wipe σ2 vs = wipe σ vs ∧ tt σ2 H2 fun b H3 =>
      if b = true then te σ2 H3 fun y H4 => ∃ acc, H4 D = some (.lst acc) ∧ acc.length < sizeLine ∧ Pv (i + 1) (upd H4 D (.lst (acc ++ [y]))) else Pv (i + 1) H3) (hd : ∀ H, Pv xs.length H → Qd H) :
    ∃ W : Nat → Nat → Hp → Prop, (∃ m, W 0 m (upd H1 D (.lst []))) ∧ ∀ i m H, W i m H →
      ((Itt K a).stop i H ∧ Qd H) ∨ ((Itt K a).go i H ∧ ∃ Nx : Hp → Prop, (∀ H', Nx H' → ∃ m', m' < m ∧ W (i + 1) m' H') ∧ ∀ x H', (Itt K a).yld i H x H' → g x (wipe σ vs) H' fun σ2 H2 => wipe σ2 vs = wipe σ vs ∧ tt σ2 H2 fun b H3 =>
        if b = true then te σ2 H3 fun y H4 => ∃ acc, H4 D = some (.lst acc) ∧ acc.length < sizeLine ∧ Nx (upd H4 D (.lst (acc ++ [y]))) else Nx H3) := by
  refine ⟨fun i m H => m = xs.length - i ∧ i ≤ xs.length ∧ Pv i H, ⟨xs.length, by simp, Nat.zero_le _, h0⟩, ?_⟩
  rintro i m H ⟨rfl, hi, p⟩
  have q := hl i H hi p
  by_cases hlt : i < xs.length
  · refine .inr ⟨⟨xs, xs[i], q, by simp [hlt]⟩, Pv (i + 1), fun H' p' => ⟨xs.length - (i + 1), by trivial, rfl, hlt, p'⟩, fun x H' y => ?_⟩
    obtain ⟨e, y⟩ := y
    subst e
    exact hs i x _ (y xs q) p
  · have e : i = xs.length := by trivial
    subst e
    exact .inl ⟨⟨xs, q, Nat.le_refl _⟩, hd H p⟩
def blkC (N : List Str) (sc scope : Scope) (own : List (Str × Nat)) : Bool :=
  (match scope.kind with | .function => true | _ => false) && (scope.names.all fun y => decide (scope.names.lookup y.1 = some y.2)) && (own.all fun p => decide (N[p.2]? = some p.1)) &&
    (scope.names.all fun y => match y.2 with
      | .free => (match sc.names.lookup y.1 with | some .cell => true | some .free => true | _ => false)
      | .local => decide (y.1 ∈ own.map (·.1)) || decide (y.1 ∉ N)
      | .cell => decide (y.1 ∈ own.map (·.1)) || decide (y.1 ∉ N)
      | _ => true)
theorem blkOk_by {N : List Str} {sc scope : Scope} {own : List (Str × Nat)} (h : blkC N sc scope own = true) : BlkOk N sc scope own := by
  unfold blkC at h
  simp only [Bool.and_eq_true, List.all_eq_true, decide_eq_true_eq] at h
  obtain ⟨⟨⟨h1, h2⟩, h3⟩, h4⟩ := h
  refine ⟨?_, h2, h3, fun y hy e => ?_, fun y hy e => ?_⟩
  · split at h1
    · assumption
    · cases h1
  · have q := h4 y hy
    simp only [e] at q
    split at q <;> first | exact .inl (by assumption) | exact .inr (by assumption) | cases q
  · have q := h4 y hy
    rcases e with e | e <;> (simp only [e, Bool.or_eq_true, decide_eq_true_eq] at q; exact q)
end L2
namespace L2
open PySem PySem.Spec PyProof.Rows
section
variable {prog : Program} {w : World} {A : Around} {R : Result → Shared → Prop} {s : Shared} {elt t0 i0 t1 i1 : Expr} {ifs0 ifs1 : List Expr} {scope : Scope} {pos : Pos} {it acc : Value} {env : Env}
end
section
variable {X : Cx}
end
end L2
namespace L2
open PySem PySem.Spec PyProof.Rows
section
variable {κ : Type} [DecidableEq κ]
end
section
variable {P : Program} {w : World} {H : Hp} {h : Heap} {a : Addr}
end
section
variable {X : Cx} {pins : List (Addr × Obj)} {σ : St} {H : Hp} {s : Shared} {a : Addr} {y v : V} {u r : Value} {o : Option V} {A : Around} {E : Value → Shared → Prop}
end
section
variable {X : Cx} {pins : List (Addr × Obj)} {σ : St} {H : Hp} {s : Shared} {a : Addr} {kvs : List (Key × V)} {k : Key} {u : Value} {A : Around} {E : Value → Shared → Prop}
end
section
variable {X : Cx} {o i e value : Expr} {pos pos' tpos : Pos} {td ty tv : TE}
end
section
variable {X : Cx} {pos : Pos}
end
structure M1 (X : Cx) (o : Expr) (m : Str) (apos : Pos) (e : Expr) (cpos : Pos) : Prop where
  base : attributeBase o m X.env (eval o X.env) = eval o X.env
  few : ((backTo cpos (starEach [e] X.env)).all (fun x => !x.1) && (backToKw cpos (keywordEach [] X.env)).all (fun x => x.1.isSome)
    && decide (([e] : List Expr).length + ([] : List Keyword).length + (if ([] : List Keyword).isEmpty then 0 else 1) < 30)) = true
  line : (apos.endLine == cpos.line) = true
  trees : backTo cpos (starEach [e] X.env) = [(false, eval e X.env)]
structure M2 (X : Cx) (o : Expr) (m : Str) (apos : Pos) (e f : Expr) (cpos : Pos) : Prop where
  base : attributeBase o m X.env (eval o X.env) = eval o X.env
  few : ((backTo cpos (starEach [e, f] X.env)).all (fun x => !x.1) && (backToKw cpos (keywordEach [] X.env)).all (fun x => x.1.isSome)
    && decide (([e, f] : List Expr).length + ([] : List Keyword).length + (if ([] : List Keyword).isEmpty then 0 else 1) < 30)) = true
  line : (apos.endLine == cpos.line) = true
  trees : backTo cpos (starEach [e, f] X.env) = [(false, eval e X.env), (false, eval f X.env)]
section
variable {X : Cx} {pins : List (Addr × Obj)} {σ : St} {H : Hp} {s : Shared} {a : Addr} {y d : V} {u r : Value} {o : Option V} {A : Around} {E : Value → Shared → Prop}
end
section
variable {X : Cx} {o e f : Expr} {apos cpos : Pos} {td ty tx : TE}
end
section
variable {X : Cx} {pins : List (Addr × Obj)} {σ : St} {H : Hp} {s : Shared} {a : Addr} {kvs : List (Key × V)} {A : Around} {E : Value → Shared → Prop}
end
section
variable {X : Cx} {pins : List (Addr × Obj)} {σ : St} {H : Hp} {s : Shared} {a : Addr} {y : V} {u : Value} {A : Around} {E : Value → Shared → Prop}
end
end L2
namespace L2
open PySem PySem.Spec PyProof.Rows
section
variable {prog : Program} {w : World} {A : Around} {E : Value → Shared → Prop}
end
section
variable {X : Cx}
end
end L2
namespace L2
open PySem PySem.Spec PyProof.Rows
theorem boot_reversed5 : bootBuiltins "reversed" = some (.type "reversed") := by decide +kernel
section
variable {X : Cx} {pins : List (Addr × Obj)} {σ : St} {H : Hp} {s : Shared} {h' : Heap}
theorem Inv.turnedL {t' : Nat} {ch : List Addr} (I : Inv X pins σ H s) (k : ∀ b o, b ∉ ch → s.heap.get? b = some o → h'.get? b = some o) (hf : ∀ b ∈ ch, FpOk X pins H b) : Inv X pins σ H { s with heap := h', toks := t' } := by
  have nit : ∀ b u, H b = some u → b ∉ ch := fun b u e z => by
    have q := (hf b z).1
    rw [q] at e; cases e
  refine I.step (g' := s.gens) (d' := s.drawn) (ch := ch) (fun b hb => ⟨(hf b hb).2.2.2.1, (hf b hb).2.1, (hf b hb).2.2.2.2.1, (hf b hb).2.2.2.2.2⟩) (fun b o _ _ hc e _ => k b o hc e) (fun b o _ _ hc e _ => ⟨o.slots, k b o hc e⟩)
    (fun _ _ _ _ n => n) (fun b o hc e => ⟨o, k b o hc e⟩) (fun _ _ e => e) (fun _ _ _ e => e) (fun b ps e => ⟨#[], by rw [e]; simp⟩) (fun m hm => ?_) (fun b u e => ?_) I.bare
  · obtain ⟨o, es, ep, ho, r⟩ := hm
    exact ⟨o, es, ep, k _ o (fun z => (hf _ z).2.1 rfl) ho, r⟩
  · refine (I.hok b u e).stay (fun c v hc q => k c v ?_ q) (fun _ q => q) fun _ _ q => q
    rcases hc with z | z
    · rw [z]; exact nit b u e
    · exact nit c _ z
theorem Inv.turnedNew {t' : Nat} {ch : List Addr} {T : Addr} {ob : HO} (I : Inv X pins σ H s) (k : ∀ b o, b ∉ ch → s.heap.get? b = some o → h'.get? b = some o) (hf : ∀ b ∈ ch, FpOk X pins H b) (hT : s.heap.objs.size ≤ T)
    (new : ObjOk X.prog X.w (upd H T ob) h' T ob) : Inv X pins σ (upd H T ob) { s with heap := h', toks := t' } := by
  have hn : H T = none := I.hok.fresh hT
  have nit : ∀ b u, H b = some u → b ∉ ch := fun b u e z => by
    have q := (hf b z).1
    rw [q] at e; cases e
  refine I.step (g' := s.gens) (d' := s.drawn) (ch := ch) (fun b hb => ⟨(hf b hb).2.2.2.1, (hf b hb).2.1, (hf b hb).2.2.2.2.1, (hf b hb).2.2.2.2.2⟩) (fun b o _ _ hc e _ => k b o hc e) (fun b o _ _ hc e _ => ⟨o.slots, k b o hc e⟩)
    (fun b o _ e n => ?_) (fun b o hc e => ⟨o, k b o hc e⟩) (fun b xs e => ?_) (fun b o u e => ?_) (fun b ps e => ⟨#[], ?_⟩) (fun m hm => ?_) (fun b u e => ?_) I.bare
  · rw [upd_ne (Nat.ne_of_lt (Nat.lt_of_lt_of_le (Heap.lt_size e) hT))]; exact n
  · rw [upd_ne (ne_of_none e hn)]; exact e
  · rw [upd_ne (ne_of_none e hn)]; exact e
  · rw [upd_ne (ne_of_none e hn), e]; simp
  · obtain ⟨o, es, ep, ho, r⟩ := hm
    exact ⟨o, es, ep, k _ o (fun z => (hf _ z).2.1 rfl) ho, r⟩
  · by_cases hb : b = T
    · subst hb
      rw [upd_same] at e
      cases e
      exact new
    · rw [upd_ne hb] at e
      refine (I.hok b u e).stay (fun c v hc q => k c v ?_ q) (fun c q => by rw [upd_ne (ne_of_none q hn)]; exact q) fun c xs q => by rw [upd_ne (ne_of_none q hn)]; exact q
      rcases hc with z | z
      · rw [z]; exact nit b u e
      · exact nit c _ z
end
section
variable {X : Cx}
theorem pi_one {tg : Expr} {pins : List (Addr × Obj)} {σ : St} {H : Hp} {s : Shared} {R : It → Hp → Prop} {J : It} {tn : Nat → Heap → Prop} {tk : Nat} (I : Inv X pins σ H s) (o : Obj)
    (T : Turn X.prog X.w X.K tg J [s.heap.objs.size] s.heap.objs.size tn) (st : tn 0 (s.heap.push o)) (q : R J H) : PIE X pins σ tg R (.ref s.heap.objs.size) { s with heap := s.heap.push o, toks := tk } := by
  refine ⟨s.heap.objs.size, [s.heap.objs.size], tn, J, H, rfl, I.kept fun b ob e => Heap.get?_push_of_some _ e, T, st, fun b hb => ?_, q⟩
  have e : b = s.heap.objs.size := by simpa using hb
  subst e
  exact I.fpOk (Nat.le_refl _) (I.hok.fresh (Nat.le_refl _))
end
def Itc (lo c : Int) (n : Nat) : It := ⟨fun i _ => i < n, fun i H x H' => H' = H ∧ x = .int (lo + (i : Nat) * c), fun i _ => n ≤ i⟩
theorem turn_rangeC {P : Program} {w : World} {K : PySem.W.Frag} {tg : Expr} (it : Addr) (lo c : Int) (n : Nat) : Turn P w K tg (Itc lo c n) [it] it (fun i h => IsRangeIter h it (lo + (i : Nat) * c) ((n : Int) - (i : Nat)) c) where
  mem := by simp
  obj := fun i h st b hb => by
    have e : b = it := by simpa using hb
    subst e
    exact ⟨_, st, fun v z => nomatch z⟩
  keep := fun i h h' st k => k it (by simp) _ st
  item := by
    intro X hP hw hK hc i pins s σ H E I hf st hg
    subst hP hw hK
    obtain ⟨f0, f1, f2, f3, f4, f5⟩ := hf it (by simp)
    have W := Walks.range (prog := X.prog) (w := X.w) (I.ok.hd hc) it lo c n
    refine W.item i s _ _ hg st fun v h' tk hv st' kk => ?_
    obtain ⟨t, rfl⟩ := hv
    have I1 : Inv X pins σ H { s with heap := h', toks := tk } := I.turned (fun b o hb e => kk b o (by simpa using hb) e) f0 f1 f3 f4 f5
    exact ⟨_, rfl, go_of (s := { s with heap := h', toks := tk }) (n := "range_iterator") st' rfl rfl (by decide) ⟨.int (lo + (i : Nat) * c), H, I1, ⟨t, rfl⟩, ⟨rfl, rfl⟩, st', fun b hb => (hf b hb).1⟩⟩
  done := by
    intro X hP hw hK hc i pins s σ H E I hf st hg
    subst hP hw hK
    obtain ⟨f0, f1, f2, f3, f4, f5⟩ := hf it (by simp)
    exact wpAny_pyNext_range_end (I.ok.hd hc) st (by have : n ≤ i := hg; trivial) fun h' eb => ⟨rfl, I.turned (t' := s.toks) (fun b o hb e => eb b o hb e) f0 f1 f3 f4 f5⟩
  self := fun A i s Q E st h => wpAny_pyIter_rangeiter st h
def RgC (i j c : Int) (n : Nat) : Prop := c ≠ 0 ∧ c.natAbs < 1073741824 ∧ Builtin.Range.small i j c = true ∧ Builtin.Range.rangeSize i j c = n
theorem RgC.neg {i j : Int} (ha : -(2 ^ 62) ≤ i) (ha' : i < 2 ^ 62) (hb : -(2 ^ 62) ≤ j) (hb' : j < 2 ^ 62) : RgC i j (-1) (i - j).toNat :=
  ⟨by decide, by decide, PySem.W.small_down ha ha' hb hb', PySem.W.rangeSize_downNat i j⟩
def iRng3 (ta : TA) : TI := fun σ H R => ta σ H fun vs H1 => ∃ (i j c : Int) (n : Nat), vs = [.int i, .int j, .int c] ∧ RgC i j c n ∧ R (Itc i c n) H1
section
variable {X : Cx} {tg : Expr}
theorem pi_range3 {a b c : Expr} {ta : TA} {p pos : Pos} (hg : Gl X "range") (hm : X.mg "range" = none) (ha : PA X [a, b, c] ta)
    (hs : starEach [a, b, c] X.env = (false, eval a X.env) :: starEach [b, c] X.env := by rfl) (hpl : (backTo pos (starEach [b, c] X.env)).any (·.1) = false := by rfl) :
    PI X tg (.Call (.Name "range" p) [a, b, c] [] pos) (iRng3 ta) := by
  intro pins s σ H R I h
  refine Call_ (ld_blt I hg hm boot_range (PyProof.Rows.callWith_type1 (thn (ha pos pins s σ H _ I h) fun us s1 ⟨vs, H1, I1, r1, q1⟩ => ?_) hs hpl))
  obtain ⟨i, j, k, n, e, ⟨c0, c1, c2, c3⟩, q⟩ := q1
  subst e
  cases r1 with
  | cons r rr =>
    cases rr with
    | cons r' rr =>
      cases rr with
      | cons r'' rr =>
        cases rr
        obtain ⟨t, rfl⟩ := r
        obtain ⟨t', rfl⟩ := r'
        obtain ⟨t'', rfl⟩ := r''
        refine call_range_3 c0 ?_ (.inl (PyProof.noPylong_small c1))
        refine wpAny_pyIter_range (IsRange.new ..) c2 ?_
        have I2 : Inv X pins σ H1 { s1 with heap := s1.heap.push { cls := .type "range", data := .fields #[.int i t, .int j t', .int k t''] } } := I1.kept (t' := s1.toks) fun b o e => Heap.get?_push_of_some _ e
        refine pi_one (tk := s1.toks) I2 _ (turn_rangeC _ i k n) ?_ q
        have e1 : i + ((0 : Nat) : Int) * k = i := by simp
        have e2 : (n : Int) - ((0 : Nat) : Int) = Builtin.Range.rangeSize i j k := by rw [c3]; simp
        show IsRangeIter _ _ (i + ((0 : Nat) : Int) * k) ((n : Int) - ((0 : Nat) : Int)) k
        rw [e1, e2]
        exact Heap.get?_push_size _ rfl
end
theorem for_rangeC {lo c : Int} {n : Nat} {g : TG} {tb : TS} {D : Ends} {σ : St} {H : Hp} (Pv : Nat → St → Hp → Prop) (h0 : Pv 0 σ H)
    (hs : ∀ i σ H, i < n → Pv i σ H → g (.int (lo + (i : Nat) * c)) σ H fun σ2 H2 => tb { D with nx := Pv (i + 1), ct := Pv (i + 1), bk := D.nx } σ2 H2) (hd : ∀ σ H, Pv n σ H → D.nx σ H) :
    ∃ W : Nat → Nat → St → Hp → Prop, (∃ m, W 0 m σ H) ∧ ∀ i m σ H, W i m σ H →
      ((Itc lo c n).stop i H ∧ D.nx σ H) ∨ ((Itc lo c n).go i H ∧ ∃ N : St → Hp → Prop, (∀ σ' H', N σ' H' → ∃ m', m' < m ∧ W (i + 1) m' σ' H') ∧ ∀ x H', (Itc lo c n).yld i H x H' → g x σ H' fun σ2 H2 => tb { D with nx := N, ct := N, bk := D.nx } σ2 H2) := by
  refine ⟨fun i m σ H => m = n - i ∧ i ≤ n ∧ Pv i σ H, ⟨n, by simp, Nat.zero_le _, h0⟩, ?_⟩
  rintro i m σ H ⟨rfl, hi, p⟩
  by_cases hlt : i < n
  · refine .inr ⟨hlt, Pv (i + 1), fun σ' H' p' => ⟨n - (i + 1), by trivial, rfl, hlt, p'⟩, fun x H' y => ?_⟩
    obtain ⟨e, y⟩ := y
    subst e y
    exact hs i σ _ hlt p
  · have e : i = n := by trivial
    subst e
    exact .inl ⟨Nat.le_refl _, hd σ H p⟩
section
variable {X : Cx} {tg : Expr}
end
section
variable {prog : Program} {w : World} {A : Around} {E : Value → Shared → Prop} {s : Shared}
end
section
variable {X : Cx} {pins : List (Addr × Obj)} {σ : St} {H : Hp} {s : Shared} {d : Addr} {o : Obj}
end
section
variable {P : Program} {w : World} {K : PySem.W.Frag} {tg : Expr} {d : Addr} {o : Obj} {es : Array DictEntry} {ep : Nat}
end
section
variable {X : Cx} {tg e : Expr} {td : TE} {apos cpos : Pos}
end
def Ite (K : PySem.W.Frag) (a : Addr) : It :=
  ⟨fun i H => ∃ (xs : List V) (x : V), SqL K H a xs ∧ xs[i]? = some x, fun i H v H' => ∃ T x, v = .ref T ∧ H T = none ∧ H' = upd H T (.tup [.int (i : Nat), x]) ∧ ∀ xs, SqL K H a xs → xs[i]? = some x, fun i H => ∃ xs : List V, SqL K H a xs ∧ xs.length ≤ i⟩
theorem turn_enum {P : Program} {w : World} {K : PySem.W.Frag} {elts : List Expr} {kk : Nat} {tpos : Pos} (a e it : Addr) :
    Turn P w K (.Tuple elts kk tpos) (Ite K a) [e, it] e (fun i h => (∃ old, IsEnum h e it ((i : Nat) : Int) old) ∧ h.IsListIter it a i ∧ e ≠ it) where
  mem := by simp
  obj := fun i h st b hb => by
    obtain ⟨⟨old, he⟩, ⟨o, ho, hc, hd⟩, _⟩ := st
    have e' : b = e ∨ b = it := by simpa using hb
    rcases e' with z | z
    · rw [z]; exact ⟨_, he, fun v q => nomatch q⟩
    · rw [z]; exact ⟨o, ho, fun v q => by rw [hd] at q; cases q⟩
  keep := fun i h h' st k => let ⟨⟨old, he⟩, hi, hne⟩ := st; ⟨⟨old, k e (by simp) _ he⟩, hi.at fun o q => k it (by simp) o q, hne⟩
  item := by
    intro X hP hw hK hc i pins s σ H E I hf st hg
    subst hP hw hK
    obtain ⟨⟨old, he⟩, hit, hne⟩ := st
    obtain ⟨xs, x, hq, hx⟩ := hg
    obtain ⟨its, rv, p, hz⟩ := I.list hq
    obtain ⟨u, hu, ru⟩ := rv.get hx
    have hel : e < s.heap.objs.size := Heap.lt_size he
    have hil : it < s.heap.objs.size := by obtain ⟨_, q, _⟩ := hit; exact Heap.lt_size q
    refine wpAny_pyNext_enum_item he hit p.isList (x := u) (by simpa using hu) hne fun h' ho hit' hT hsz hk => ?_
    refine ⟨_, rfl, wpAny_letOwnedTupleGo_enum (s := { s with heap := h', toks := s.toks + 1 }) ho fun h'' he' sb => ?_⟩
    have hT2 : h''.get? s.heap.objs.size = some { cls := .type "tuple", data := .seq #[.int i s.toks, u] } := (sb.2 _ (Nat.ne_of_gt hel)).trans hT
    have new : ObjOk X.prog X.w (upd H s.heap.objs.size (.tup [.int (i : Nat), x])) h'' s.heap.objs.size (.tup [.int (i : Nat), x]) :=
      ⟨by show 2 ≤ sizeLine; decide, [.int i s.toks, u], .cons ⟨_, rfl⟩ (.cons ru .nil), ⟨_, hT2, rfl, _, rfl⟩⟩
    have I1 : Inv X pins σ (upd H s.heap.objs.size (.tup [.int (i : Nat), x])) { s with heap := h'', toks := s.toks + 1 } :=
      I.turnedNew (ch := [e, it]) (fun b ob hb q => (sb.2 b (fun z => hb (by simp [z]))).trans (hk b ob (fun z => hb (by simp [z])) (fun z => hb (by simp [z])) q)) hf (Nat.le_refl _) new
    refine ⟨.ref s.heap.objs.size, _, I1, rfl, ⟨_, x, rfl, I.hok.fresh (Nat.le_refl _), rfl, fun ys hy => by rw [I.list_inj hy hq]; exact hx⟩, ⟨⟨u, ?_⟩, hit'.at fun o q => (sb.2 it (Ne.symm hne)).trans q, hne⟩, fun b hb => ?_⟩
    · have e1 : ((i + 1 : Nat) : Int) = (i : Int) + 1 := by trivial
      rw [e1]; exact he'
    · have hb' : b < s.heap.objs.size := by
        have e' : b = e ∨ b = it := by simpa using hb
        rcases e' with z | z
        · rw [z]; exact hel
        · rw [z]; exact hil
      rw [upd_ne (Nat.ne_of_lt hb')]
      exact (hf b hb).1
  done := by
    intro X hP hw hK hc i pins s σ H E I hf st hg
    subst hP hw hK
    obtain ⟨⟨old, he⟩, hit, hne⟩ := st
    obtain ⟨xs, hq, hx⟩ := hg
    obtain ⟨its, rv, p, hz⟩ := I.list hq
    obtain ⟨f0, f1, f2, f3, f4, f5⟩ := hf it (by simp)
    have hl := rv.length
    exact wpAny_pyNext_enum_end (I.ok.hd hc) he hit p.isList (by simp; trivial) fun h' eb => ⟨rfl, I.turned (t' := s.toks) (fun b o hb q => eb b o hb q) f0 f1 f3 f4 f5⟩
  self := fun A i s Q E st h => let ⟨⟨_, he⟩, _⟩ := st; wpAny_pyIter_enum he h
def iEnum (K : PySem.W.Frag) (ta : TA) : TI := fun σ H R => ta σ H fun vs H1 => ∃ a xs, vs = [.ref a] ∧ SqL K H1 a xs ∧ R (Ite K a) H1
theorem pi_enum {X : Cx} {e : Expr} {ta : TA} {p pos tpos : Pos} {elts : List Expr} {kk : Nat} (hg : Gl X "enumerate") (hm : X.mg "enumerate" = none) (ha : PA X [e] ta) (hs : starEach [e] X.env = [(false, eval e X.env)] := by rfl) :
    PI X (.Tuple elts kk tpos) (.Call (.Name "enumerate" p) [e] [] pos) (iEnum X.K ta) := by
  intro pins s σ H R I h
  refine Call_ (ld_blt I hg hm boot_enumerate (PyProof.Rows.callWith_type1 (thn (ha pos pins s σ H _ I h) fun us s1 ⟨vs, H1, I1, r1, q1⟩ => ?_) hs rfl))
  obtain ⟨a, xs, ex, hq, q⟩ := q1
  subst ex
  cases r1 with
  | cons r rr =>
    cases rr
    cases r
    obtain ⟨its, rv, p', hz⟩ := I1.list hq
    refine call_enumerate_list p'.isList fun h' he hit hsz hk => wpAny_pyIter_enum he ?_
    have I2 : Inv X pins σ H1 { s1 with heap := h' } := I1.kept (t' := s1.toks) hk
    refine ⟨s1.heap.objs.size + 1, [s1.heap.objs.size + 1, s1.heap.objs.size], _, _, H1, rfl, I2, turn_enum a (s1.heap.objs.size + 1) s1.heap.objs.size, ⟨⟨.none, he⟩, hit, Nat.succ_ne_self _⟩, fun b hb => ?_, q⟩
    have e' : b = s1.heap.objs.size + 1 ∨ b = s1.heap.objs.size := by simpa using hb
    have hle : s1.heap.objs.size ≤ b := by
      rcases e' with z | z
      · rw [z]; exact Nat.le_add_right _ _
      · rw [z]; exact Nat.le_refl _
    exact I1.fpOk hle (I1.hok.fresh hle)
theorem boot_zip5 : bootBuiltins "zip" = some (.type "zip") := by decide +kernel
end L2
section
namespace Bits
open PySem PyProof.Rows
end Bits
end
section
namespace TL
open PySem PySem.Builtin PySem.Builtin.Str PySem.StrLaws
end TL
end
namespace L2
open PySem PySem.Spec PyProof.Rows
section
variable {X : Cx} {pins : List (Addr × Obj)} {σ : St} {H : Hp} {s : Shared} {Q : VK}
end
section
variable {X : Cx}
end
section
variable {X : Cx} {o e : Expr} {to te : TE}
end
end L2
namespace L2
open PySem PySem.Spec PyProof.Rows
section
variable {X : Cx}
end
end L2
namespace Att
open PySem PySem.W PySem.Calls PyProof.Rows
section
variable {prog : Program} {w : World} {A : Around} {E : Value → Shared → Prop} {s : Shared} {K : Frag}
end
end Att
namespace L2
open PySem PySem.Spec PyProof.Rows
end L2
namespace L2
open PySem PySem.Spec PyProof.Rows
end L2
namespace L2
open PySem PySem.Spec PyProof.Rows
def defArgs (s : Stmt) : Arguments := match s with
  | .FunctionDef _ a _ _ _ _ _ _ _ _ => a
  | _ => { posonlyargs := [], args := [], vararg := none, kwonlyargs := [], kw_defaults := [], kwarg := none, defaults := [] }
def defBody (s : Stmt) : List Stmt := match s with
  | .FunctionDef _ _ b _ _ _ _ _ _ _ => b
  | _ => []
def defScope (s : Stmt) : Scope := match s with
  | .FunctionDef _ _ _ _ _ _ sc _ _ _ => sc
  | _ => { kind := .function, names := [], isGenerator := false, isCoroutine := false }
abbrev CX0 : CXT := fun _ _ _ _ _ _ => False
abbrev E0 : XK := fun _ _ _ => False
theorem pass0 {X : Cx} : Passes CX0 X E0 := fun _ _ _ _ _ _ _ h => h.elim
structure Fun (K : PySem.W.Frag) (x qual : Str) (st : Stmt) (f : Addr) (fd : FuncData) : Prop where
  ex : ∃ (oc : Value) (od : Option Addr) (kV doc pm : Value) (an : Option Addr) (cdv ct : Value) (osl : Array (Option Value)),
    fd = PySem.W.fnOf x qual (defArgs st) (defBody st) (defScope st) .none kV doc pm an cdv ct ∧ K.lookup f = some ⟨oc, od, .func fd, osl⟩ ∧ PySem.W.codeIn K cdv qual = true
  kp : PySem.W.keepIn K (.ref f) = true
section
variable {P : Program} {w : World} {K : PySem.W.Frag} {mg : Str → Option Value} {base : Heap}
theorem Fun.ok {x qual : Str} {st : Stmt} {f : Addr} {fd : FuncData} {N ps : List Str} {k : Nat} {sp : Sp} (F : Fun K x qual st f fd) (S : FnScope N ps (defScope st)) (len : ∀ vs H Q E, sp vs H Q E → vs.length = ps.length)
    (hbody : ∀ (cdv : Value) (A : Around) (outer : List Env) (s : Shared) (H : Hp) (vs : List V) (Q : VK) (E : XK), Room k (A.deeper (envOfC qual (defScope st) s.heap.objs.size f cdv)) → sp vs H Q E →
      ∃ t, PSs (cxOf CX0 P w K mg base N qual (defScope st) f cdv A outer s H E).nox (defBody st) t ∧ t { nx := fun _ H' => Q .non H', rt := Q } (start N vs) H) : FnOk P w K mg base CX0 (k + 1) f fd ps sp := by
  obtain ⟨oc, od, kV, doc, pm, an, cdv, ct, osl, rfl, lk, hcd⟩ := F.ex
  refine fn_of lk hcd S len fun A outer s H vs Q E hr hsp => ?_
  obtain ⟨t, h, q⟩ := hbody cdv A outer s H vs Q E hr hsp
  exact ⟨t, h.nox, q⟩
theorem Fun.binds {x qual : Str} {st : Stmt} {f : Addr} {fd : FuncData} {ps : List Str} (F : Fun K x qual st f fd)
    (h : ∀ (kV doc pm : Value) (an : Option Addr) (cdv ct : Value) (us : List Value), us.length = ps.length → bindArgs (PySem.W.fnOf x qual (defArgs st) (defBody st) (defScope st) .none kV doc pm an cdv ct) ⟨us, []⟩ = pure (ps.zip us)) : Binds K fd ps [] := by
  obtain ⟨oc, od, kV, doc, pm, an, cdv, ct, osl, rfl, lk, hcd⟩ := F.ex
  exact .all (h kV doc pm an cdv ct)
theorem fun_mk {x qual : Str} {st : Stmt} {f : Addr} {oc : Value} {od an : Option Addr} {osl : Array (Option Value)} {kV doc pm cdv ct : Value} (l : K.lookup f = some ⟨oc, od, .func (PySem.W.fnOf x qual (defArgs st) (defBody st) (defScope st) .none kV doc pm an cdv ct), osl⟩)
    (c : PySem.W.codeIn K cdv qual = true) (k : PySem.W.keepIn K (.ref f) = true) : Fun K x qual st f (PySem.W.fnOf x qual (defArgs st) (defBody st) (defScope st) .none kV doc pm an cdv ct) := ⟨⟨oc, od, kV, doc, pm, an, cdv, ct, osl, rfl, l, c⟩, k⟩
end
section
variable {X : Cx}
theorem pv (i : Nat) {x : Str} {pos : Pos} (hN : X.N[i]? = some x := by rfl) (hv : Vis X.env.scope x := by first | exact Or.inl rfl | exact Or.inr (Or.inl rfl) | exact Or.inr (Or.inr rfl)) (hd : (x == ("__debug__" : Str)) = false := by decide)
    (hcd : (x == ("__classdict__" : Str)) = false := by decide) : PE X (.Name x pos) (tVar i) := pe_var hN hv hd hcd
end
theorem iteF {A B : Prop} (h : B) : if false = true then A else B := by
  rw [if_neg Bool.false_ne_true]
  exact h
theorem iteT {A B : Prop} (h : A) : if true = true then A else B := by
  rw [if_pos rfl]
  exact h
def Same (H H' : Hp) : Prop := ∀ b o, H b = some o → H' b = some o
theorem Same.refl (H : Hp) : Same H H := fun _ _ h => h
theorem Same.trans {H H1 H2 : Hp} (a : Same H H1) (b : Same H1 H2) : Same H H2 := fun c o h => b c o (a c o h)
theorem Same.seq {K : PySem.W.Frag} {H H' : Hp} {a : Addr} {xs : List V} (e : Same H H') (h : SqL K H a xs) : SqL K H' a xs := by
  rcases h with (h | ⟨o, h⟩) | h
  · exact .inl (.inl (e _ _ h))
  · exact .inl (.inr ⟨o, e _ _ h⟩)
  · exact .inr h
section
variable {κ : Type} [DecidableEq κ]
end
theorem at_of {xs : List V} {z : Int} {j : Nat} {v : V} (e : z = (j : Int)) (h : xs[j]? = some v) : atI xs z = some v := by
  rw [e]
  exact atI_nat h
end L2
section
set_option Elab.async false
set_option linter.all false
set_option maxRecDepth 100000
set_option maxHeartbeats 2000000
namespace L2
open PySem PySem.Spec PyProof.Rows
open PySem.W (WData Codec OpenSpec Well WellAll ReadsW ReadsAllW)
mutual
inductive Dw (K : PySem.W.Frag) (H : Hp) : V → WData → Prop
  | non : Dw K H .non .none
  | bl (b : Bool) : Dw K H (.bl b) (.bool b)
  | int (i : Int) : Dw K H (.int i) (.int i)
  | str (x : Str) : Dw K H (.str x) (.str x)
  | byt (b : Array UInt8) : Dw K H (.byt b) (.bytes b.toList)
  | lst {a : Addr} {xs : List V} {ds : List WData} : SqL K H a xs → DwAll K H xs ds → Dw K H (.ref a) (.list ds)
  | tup {a : Addr} {xs : List V} {ds : List WData} : SqT K H a xs → DwAll K H xs ds → Dw K H (.ref a) (.tuple ds)
inductive DwAll (K : PySem.W.Frag) (H : Hp) : List V → List WData → Prop
  | nil : DwAll K H [] []
  | cons {v : V} {vs : List V} {d : WData} {ds : List WData} : Dw K H v d → DwAll K H vs ds → DwAll K H (v :: vs) (d :: ds)
end
theorem dw_ints {K : PySem.W.Frag} {H : Hp} : ∀ ns : List Int, DwAll K H (ns.map V.int) (ns.map WData.int)
  | [] => .nil
  | n :: r => .cons (.int n) (dw_ints r)
theorem ints_dw {K : PySem.W.Frag} {H : Hp} : ∀ (ns : List Int) (xs : List V), DwAll K H xs (ns.map WData.int) → xs = ns.map V.int
  | [], xs, h => by
    cases h
    rfl
  | n :: r, xs, h => by
    cases h with
    | cons h1 h2 =>
      cases h1
      rw [ints_dw r _ h2] <;> rfl
section
variable {P : Program} {w : World} {K : PySem.W.Frag} {H : Hp} {h : Heap} {R : PySem.W.WRecords} {cl : Str → Option Addr}
theorem sqL_at {a : Addr} {xs : List V} (hok : HOk P w H h) (KX : K.In h) (q : SqL K H a xs) : ∃ (its : List Value) (o : Obj) (n : Nat), Vals xs its ∧ h.get? a = some o ∧ o.cls = .type "list" ∧ o.data = .seq its.toArray n := by
  rcases q with q | ⟨o, its, n, e, hc, _, hd, _, hv⟩
  · obtain ⟨_, its, n, hv, e⟩ := (show ObjOk P w H h a (.lst xs) from q.ok hok)
    exact ⟨its, _, n, hv, e, rfl, rfl⟩
  · exact ⟨its.toList, o, n, hv, KX _ _ e, hc, by simp [hd]⟩
theorem sqT_at {a : Addr} {xs : List V} (hok : HOk P w H h) (KX : K.In h) (q : SqT K H a xs) : ∃ (its : List Value) (o : Obj) (n : Nat), Vals xs its ∧ h.get? a = some o ∧ o.cls = .type "tuple" ∧ o.data = .seq its.toArray n := by
  rcases q with q | ⟨o, its, n, e, hc, hd, _, hv⟩
  · obtain ⟨_, its, hv, o, e, hc, n, hd⟩ := (show ObjOk P w H h a (.tup xs) from q.ok hok)
    exact ⟨its, o, n, hv, e, hc, hd⟩
  · exact ⟨its.toList, o, n, hv, KX _ _ e, hc, by simp [hd]⟩
mutual
theorem Dw.reads (hok : HOk P w H h) (KX : K.In h) : ∀ (d : WData) (v : V) (u : Value), Dw K H v d → RelV v u → ∃ as, ReadsW R cl h u d as
  | .none, _, _, x, r => by
    cases x
    cases r
    exact ⟨_, ReadsW.none⟩
  | .bool b, _, _, x, r => by
    cases x
    cases r
    exact ⟨_, ReadsW.bool b⟩
  | .int i, _, _, x, r => by
    cases x
    obtain ⟨t, rfl⟩ := r
    exact ⟨_, ReadsW.int i t⟩
  | .str s, _, _, x, r => by
    cases x
    obtain ⟨t, rfl⟩ := r
    exact ⟨_, ReadsW.str s t⟩
  | .bytes b, _, _, x, r => by
    cases x
    obtain ⟨t, rfl⟩ := r
    exact ⟨_, ReadsW.bytes _ t⟩
  | .list ds, _, _, x, r => by
    cases x with
    | lst hs ha =>
      cases r
      obtain ⟨its, o, n, rv, ho, hc, hd⟩ := sqL_at hok KX hs
      obtain ⟨as, hr⟩ := Dw.readsAll hok KX ds _ its ha rv
      exact ⟨_, ReadsW.list ho hc hd hr⟩
  | .tuple ds, _, _, x, r => by
    cases x with
    | tup hs ha =>
      cases r
      obtain ⟨its, o, n, rv, ho, hc, hd⟩ := sqT_at hok KX hs
      obtain ⟨as, hr⟩ := Dw.readsAll hok KX ds _ its ha rv
      exact ⟨_, ReadsW.tuple ho hc hd hr⟩
  | .float _, _, _, x, _ => by cases x
  | .dict _, _, _, x, _ => by cases x
  | .bytearray _, _, _, x, _ => by cases x
  | .set _, _, _, x, _ => by cases x
  | .frozenset _, _, _, x, _ => by cases x
  | .obj _ _, _, _, x, _ => by cases x
theorem Dw.readsAll (hok : HOk P w H h) (KX : K.In h) : ∀ (ds : List WData) (vs : List V) (us : List Value), DwAll K H vs ds → Vals vs us → ∃ as, ReadsAllW R cl h us ds as
  | [], _, _, x, r => by
    cases x
    cases r
    exact ⟨_, ReadsAllW.nil⟩
  | d :: ds, _, _, x, r => by
    cases x with
    | cons h1 h2 =>
      cases r with
      | cons r1 r2 =>
        obtain ⟨as, q1⟩ := Dw.reads hok KX d _ _ h1 r1
        obtain ⟨bs, q2⟩ := Dw.readsAll hok KX ds _ _ h2 r2
        exact ⟨_, ReadsAllW.cons q1 q2⟩
end
end
mutual
def plW : WData → Bool
  | .none => true
  | .bool _ => true
  | .int _ => true
  | .str _ => true
  | .bytes _ => true
  | .list xs => plWs xs
  | .tuple xs => plWs xs
  | _ => false
def plWs : List WData → Bool
  | [] => true
  | x :: r => plW x && plWs r
end
theorem plWs_map {α : Type} {f : α → WData} (h : ∀ a, plW (f a) = true) : ∀ l : List α, plWs (l.map f) = true
  | [] => rfl
  | x :: r => by
    show (plW (f x) && plWs (r.map f)) = true
    rw [h x, plWs_map h r] <;> rfl
theorem pl_enc : ∀ (c : Codec) (a : c.denote), plW (c.enc a) = true
  | .unit, _ => rfl
  | .bool, _ => rfl
  | .int _ _, _ => rfl
  | .nat _ _, _ => rfl
  | .u8, _ => rfl
  | .bytes _ _, _ => rfl
  | .text _ _ _ _, _ => rfl
  | .list _ _ c, a => plWs_map (fun x => pl_enc c x) a
  | .pair c d, a => by
    show (plW (c.enc a.1) && (plW (d.enc a.2) && true)) = true
    rw [pl_enc c a.1, pl_enc d a.2] <;> rfl
  | .triple c d e, a => by
    show (plW (c.enc a.1) && (plW (d.enc a.2.1) && (plW (e.enc a.2.2) && true))) = true
    rw [pl_enc c a.1, pl_enc d a.2.1, pl_enc e a.2.2] <;> rfl
  | .option c, none => rfl
  | .option c, some x => pl_enc c x
theorem pl_encAll : ∀ (cs : List Codec) (a : Codec.denoteAll cs), plWs (Codec.encAll cs a) = true
  | [], _ => rfl
  | c :: cs, a => by
    show (plW (c.enc a.1) && plWs (Codec.encAll cs a.2)) = true
    rw [pl_enc c a.1, pl_encAll cs a.2] <;> rfl
theorem weight_mem : ∀ {xs : List WData} {d : WData}, d ∈ xs → d.weight ≤ WData.weightAll xs
  | [], d, h => absurd h (by simp)
  | x :: r, d, h => by
    show d.weight ≤ x.weight + 1 + WData.weightAll r
    rcases List.mem_cons.mp h with e | m
    · rw [e]
      trivial
    · have z := weight_mem m
      trivial
def toV : Value → V
  | .none => .non
  | .bool b => .bl b
  | .int i _ => .int i
  | .str x _ => .str x
  | .bytes b _ => .byt b
  | .ref a => .ref a
  | _ => .non
def OkU (A : List Addr) : Value → Prop
  | .none => True
  | .bool _ => True
  | .int _ _ => True
  | .str _ _ => True
  | .bytes _ _ => True
  | .ref a => a ∈ A
  | _ => False
theorem OkU.mono {A B : List Addr} (h : ∀ a ∈ A, a ∈ B) : ∀ {u : Value}, OkU A u → OkU B u := fun {u} x => by
  cases u with
  | ref a => exact h a x
  | none => trivial
  | bool b => trivial
  | int i t => trivial
  | str s t => trivial
  | bytes b t => trivial
  | _ => exact False.elim x
theorem relV_toV {A : List Addr} {u : Value} (x : OkU A u) : RelV (toV u) u := by
  cases u with
  | ref a => rfl
  | none => rfl
  | bool b => rfl
  | int i t => exact ⟨t, rfl⟩
  | str s t => exact ⟨t, rfl⟩
  | bytes b t => exact ⟨t, rfl⟩
  | _ => exact False.elim x
theorem vals_toV {A : List Addr} : ∀ {vs : List Value}, (∀ u ∈ vs, OkU A u) → Vals (vs.map toV) vs
  | [], _ => .nil
  | u :: r, h => .cons (relV_toV (h u (List.mem_cons_self ..))) (vals_toV fun x hx => h x (List.mem_cons_of_mem _ hx))
def ArgOb (h : Heap) (A : List Addr) (a : Addr) : Prop := ∃ vs : List Value, vs.length ≤ sizeLine ∧ (∀ u ∈ vs, OkU A u) ∧
  (h.get? a = some { cls := .type "list", data := .seq vs.toArray } ∨ h.get? a = some { cls := .type "tuple", data := .seq vs.toArray })
theorem ArgOb.mono {h : Heap} {A B : List Addr} {a : Addr} (k : ∀ a ∈ A, a ∈ B) (x : ArgOb h A a) : ArgOb h B a := by
  obtain ⟨vs, h1, h2, h3⟩ := x
  exact ⟨vs, h1, fun u hu => (h2 u hu).mono k, h3⟩
theorem wellAll_len {P : Params} {h : Heap} : ∀ {vs : List Value} {ds : List WData}, WellAll P h vs ds → vs.length = ds.length
  | _, _, .nil => rfl
  | _, _, .cons _ b => by
    show _ + 1 = _ + 1
    rw [wellAll_len b]
theorem well_list {P : Params} {h : Heap} {v : Value} {ds : List WData} (x : Well P h v (.list ds)) : ∃ (a : Addr) (vs : List Value), v = .ref a ∧ h.get? a = some { cls := .type "list", data := .seq vs.toArray } ∧ WellAll P h vs ds := by
  cases x with
  | list ho hall => exact ⟨_, _, rfl, ho, hall⟩
theorem well_tuple {P : Params} {h : Heap} {v : Value} {ds : List WData} (x : Well P h v (.tuple ds)) : ∃ (a : Addr) (vs : List Value), v = .ref a ∧ h.get? a = some { cls := .type "tuple", data := .seq vs.toArray } ∧ WellAll P h vs ds := by
  cases x with
  | tuple ho hall => exact ⟨_, _, rfl, ho, hall⟩
theorem well_cons {P : Params} {h : Heap} {us : List Value} {d : WData} {ds : List WData} (x : WellAll P h us (d :: ds)) : ∃ (v : Value) (vs : List Value), us = v :: vs ∧ Well P h v d ∧ WellAll P h vs ds := by
  cases x with
  | cons a b => exact ⟨_, _, rfl, a, b⟩
theorem line_of {n : Nat} (h : n ≤ 1048576) : n ≤ sizeLine := Nat.le_trans h (by decide)
section
variable {P : Params} {h : Heap}
mutual
theorem area_one : ∀ (d : WData) (v : Value), Well P h v d → plW d = true → d.weight ≤ 1048576 → ∃ A : List Addr, OkU A v ∧ ∀ a ∈ A, ArgOb h A a
  | .none, _, x, _, _ => by
    cases x
    exact ⟨[], trivial, fun a m => absurd m (by simp)⟩
  | .bool b, _, x, _, _ => by
    cases x
    exact ⟨[], trivial, fun a m => absurd m (by simp)⟩
  | .int i, _, x, _, _ => by
    cases x
    exact ⟨[], trivial, fun a m => absurd m (by simp)⟩
  | .str s, _, x, _, _ => by
    cases x
    exact ⟨[], trivial, fun a m => absurd m (by simp)⟩
  | .bytes b, _, x, _, _ => by
    cases x
    exact ⟨[], trivial, fun a m => absurd m (by simp)⟩
  | .list ds, _, x, p, z => by
    obtain ⟨a, vs, rfl, ho, hall⟩ := well_list x
    have z2 : WData.weightAll ds ≤ 1048576 := z
    obtain ⟨A, h1, h2⟩ := area_all ds _ hall p fun d hd => Nat.le_trans (weight_mem hd) z2
    have k : ∀ b ∈ A, b ∈ a :: A := fun b hb => List.mem_cons_of_mem _ hb
    refine ⟨a :: A, List.mem_cons_self .., fun b hb => ?_⟩
    rcases List.mem_cons.mp hb with e | m
    · rw [e]
      exact ⟨vs, line_of (by rw [wellAll_len hall]; exact Nat.le_trans (PySem.W.length_le_weightAllW ds) z2), fun u hu => (h1 u hu).mono k, .inl ho⟩
    · exact (h2 b m).mono k
  | .tuple ds, _, x, p, z => by
    obtain ⟨a, vs, rfl, ho, hall⟩ := well_tuple x
    have z2 : WData.weightAll ds ≤ 1048576 := z
    obtain ⟨A, h1, h2⟩ := area_all ds _ hall p fun d hd => Nat.le_trans (weight_mem hd) z2
    have k : ∀ b ∈ A, b ∈ a :: A := fun b hb => List.mem_cons_of_mem _ hb
    refine ⟨a :: A, List.mem_cons_self .., fun b hb => ?_⟩
    rcases List.mem_cons.mp hb with e | m
    · rw [e]
      exact ⟨vs, line_of (by rw [wellAll_len hall]; exact Nat.le_trans (PySem.W.length_le_weightAllW ds) z2), fun u hu => (h1 u hu).mono k, .inr ho⟩
    · exact (h2 b m).mono k
  | .float _, _, _, p, _ => Bool.noConfusion (show false = true from p)
  | .dict _, _, _, p, _ => Bool.noConfusion (show false = true from p)
  | .bytearray _, _, _, p, _ => Bool.noConfusion (show false = true from p)
  | .set _, _, _, p, _ => Bool.noConfusion (show false = true from p)
  | .frozenset _, _, _, p, _ => Bool.noConfusion (show false = true from p)
  | .obj _ _, _, _, p, _ => Bool.noConfusion (show false = true from p)
theorem area_all : ∀ (ds : List WData) (vs : List Value), WellAll P h vs ds → plWs ds = true → (∀ d ∈ ds, d.weight ≤ 1048576) → ∃ A : List Addr, (∀ u ∈ vs, OkU A u) ∧ ∀ a ∈ A, ArgOb h A a
  | [], _, x, _, _ => by
    cases x
    exact ⟨[], fun u m => absurd m (by simp), fun a m => absurd m (by simp)⟩
  | d :: ds, _, x, p, z => by
    obtain ⟨v, vs, rfl, x1, x2⟩ := well_cons x
    have q : plW d = true ∧ plWs ds = true := Bool.and_eq_true_iff.mp p
    obtain ⟨A, a1, a2⟩ := area_one d v x1 q.1 (z d (List.mem_cons_self ..))
    obtain ⟨B, b1, b2⟩ := area_all ds vs x2 q.2 fun e he => z e (List.mem_cons_of_mem _ he)
    have kA : ∀ b ∈ A, b ∈ A ++ B := fun b hb => List.mem_append.mpr (.inl hb)
    have kB : ∀ b ∈ B, b ∈ A ++ B := fun b hb => List.mem_append.mpr (.inr hb)
    refine ⟨A ++ B, fun u hu => ?_, fun b hb => ?_⟩
    · rcases List.mem_cons.mp hu with e | m
      · rw [e]
        exact a1.mono kA
      · exact (b1 u m).mono kB
    · rcases List.mem_append.mp hb with m | m
      · exact (a2 b m).mono kA
      · exact (b2 b m).mono kB
end
end
def hoOf (o : Obj) : Option HO := match o.data with
  | .seq vs _ => if (o.cls == Value.type "list") = true then some (.frz o (.lst (vs.toList.map toV))) else some (.frz o (.tup (vs.toList.map toV)))
  | _ => none
def argH (K : PySem.W.Frag) (h : Heap) (A : List Addr) : Hp := fun b => if b ∈ A then (if (K.lookup b).isNone = true then (h.get? b).bind hoOf else none) else none
def OnlyF (H : Hp) : Prop := ∀ b, H b = none ∨ ∃ o u, H b = some (.frz o u)
theorem hoOf_lst (vs : List Value) : hoOf { cls := .type "list", data := .seq vs.toArray } = some (.frz { cls := .type "list", data := .seq vs.toArray } (.lst (vs.map toV))) := by
  show (if (Value.type "list" == Value.type "list") = true then some (HO.frz { cls := .type "list", data := .seq vs.toArray } (.lst (vs.toArray.toList.map toV))) else some (HO.frz { cls := .type "list", data := .seq vs.toArray } (.tup (vs.toArray.toList.map toV)))) = _
  rw [if_pos (beq_self_eq_true _)]
theorem hoOf_tup (vs : List Value) : hoOf { cls := .type "tuple", data := .seq vs.toArray } = some (.frz { cls := .type "tuple", data := .seq vs.toArray } (.tup (vs.map toV))) := by
  show (if (Value.type "tuple" == Value.type "list") = true then some (HO.frz { cls := .type "tuple", data := .seq vs.toArray } (.lst (vs.toArray.toList.map toV))) else some (HO.frz { cls := .type "tuple", data := .seq vs.toArray } (.tup (vs.toArray.toList.map toV)))) = _
  rw [if_neg (by decide)]
section
variable {P : Program} {w : World} {K : PySem.W.Frag} {h : Heap} {A : List Addr}
theorem argH_at {b : Addr} {o : Obj} (hb : b ∈ A) (hk : K.lookup b = none) (e : h.get? b = some o) : argH K h A b = hoOf o := by
  unfold argH
  rw [if_pos hb, hk, if_pos (show (none : Option Obj).isNone = true from rfl), e] <;> rfl
theorem of_argH {b : Addr} {u : HO} (q : argH K h A b = some u) : b ∈ A ∧ K.lookup b = none := by
  unfold argH at q
  by_cases hb : b ∈ A
  · rw [if_pos hb] at q
    cases hk : K.lookup b with
    | none => exact ⟨hb, rfl⟩
    | some o =>
      rw [hk, if_neg (by simp)] at q
      cases q
  · rw [if_neg hb] at q
    cases q
theorem argH_is (ar : ∀ a ∈ A, ArgOb h A a) {b : Addr} {u : HO} (q : argH K h A b = some u) : K.lookup b = none ∧ ∃ vs : List Value, vs.length ≤ sizeLine ∧ (∀ u ∈ vs, OkU A u) ∧
    ((h.get? b = some { cls := .type "list", data := .seq vs.toArray } ∧ u = .frz { cls := .type "list", data := .seq vs.toArray } (.lst (vs.map toV))) ∨
     (h.get? b = some { cls := .type "tuple", data := .seq vs.toArray } ∧ u = .frz { cls := .type "tuple", data := .seq vs.toArray } (.tup (vs.map toV)))) := by
  obtain ⟨hb, hk⟩ := of_argH q
  obtain ⟨vs, h1, h2, h3⟩ := ar b hb
  refine ⟨hk, vs, h1, h2, ?_⟩
  rcases h3 with e | e
  · rw [argH_at hb hk e, hoOf_lst] at q
    exact .inl ⟨e, (Option.some.inj q).symm⟩
  · rw [argH_at hb hk e, hoOf_tup] at q
    exact .inr ⟨e, (Option.some.inj q).symm⟩
theorem argH_only (ar : ∀ a ∈ A, ArgOb h A a) : OnlyF (argH K h A) := fun b => by
  cases q : argH K h A b with
  | none => exact .inl rfl
  | some u =>
    obtain ⟨_, vs, _, _, ⟨_, e⟩ | ⟨_, e⟩⟩ := argH_is ar q
    · exact .inr ⟨_, _, by rw [e]⟩
    · exact .inr ⟨_, _, by rw [e]⟩
theorem argH_ok (ar : ∀ a ∈ A, ArgOb h A a) : HOk P w (argH K h A) h := fun b u q => by
  obtain ⟨_, vs, h1, h2, ⟨e, rfl⟩ | ⟨e, rfl⟩⟩ := argH_is ar q
  · exact ⟨e, by rw [List.length_map]; exact h1, vs, _, vals_toV h2, e⟩
  · exact ⟨e, by rw [List.length_map]; exact h1, vs, vals_toV h2, _, e, rfl, _, rfl⟩
theorem seq_inj {c c' : Value} {vs us : List Value} (e : (some { cls := c, data := .seq vs.toArray } : Option Obj) = some { cls := c', data := .seq us.toArray }) : c = c' ∧ vs = us := by
  have e1 := Option.some.inj e
  have e2 : c = c' := congrArg Obj.cls e1
  have e3 : Data.seq vs.toArray = Data.seq us.toArray := congrArg Obj.data e1
  injection e3 with e4
  refine ⟨e2, ?_⟩
  have e5 := congrArg Array.toList e4
  simpa using e5
theorem argL (KX : K.In h) (ar : ∀ a ∈ A, ArgOb h A a) {a : Addr} {vs : List Value} (ha : a ∈ A) (e : h.get? a = some { cls := .type "list", data := .seq vs.toArray }) : (∀ u ∈ vs, OkU A u) ∧ SqL K (argH K h A) a (vs.map toV) := by
  obtain ⟨us, h1, h2, h3⟩ := ar a ha
  have hu : us = vs := by
    rcases h3 with q | q
    · rw [e] at q
      exact (seq_inj q).2.symm
    · rw [e] at q
      exact absurd (Value.type.inj (seq_inj q).1) (by decide)
  subst hu
  refine ⟨h2, ?_⟩
  cases hk : K.lookup a with
  | none => exact .inl (.inr ⟨_, by rw [argH_at ha hk e, hoOf_lst]⟩)
  | some o =>
    have e2 := KX a o hk
    rw [e] at e2
    obtain rfl := Option.some.inj e2
    exact .inr ⟨_, us.toArray, _, hk, rfl, rfl, rfl, by rw [List.size_toArray]; exact h1, by simpa using vals_toV h2⟩
theorem argT (KX : K.In h) (ar : ∀ a ∈ A, ArgOb h A a) {a : Addr} {vs : List Value} (ha : a ∈ A) (e : h.get? a = some { cls := .type "tuple", data := .seq vs.toArray }) : (∀ u ∈ vs, OkU A u) ∧ SqT K (argH K h A) a (vs.map toV) := by
  obtain ⟨us, h1, h2, h3⟩ := ar a ha
  have hu : us = vs := by
    rcases h3 with q | q
    · rw [e] at q
      exact absurd (Value.type.inj (seq_inj q).1) (by decide)
    · rw [e] at q
      exact (seq_inj q).2.symm
  subst hu
  refine ⟨h2, ?_⟩
  cases hk : K.lookup a with
  | none => exact .inl (.inr ⟨_, by rw [argH_at ha hk e, hoOf_tup]⟩)
  | some o =>
    have e2 := KX a o hk
    rw [e] at e2
    obtain rfl := Option.some.inj e2
    exact .inr ⟨_, us.toArray, _, hk, rfl, rfl, by rw [List.size_toArray]; exact h1, by simpa using vals_toV h2⟩
mutual
theorem dw_one {Pm : Params} (KX : K.In h) (ar : ∀ a ∈ A, ArgOb h A a) : ∀ (d : WData) (v : Value), Well Pm h v d → plW d = true → OkU A v → Dw K (argH K h A) (toV v) d
  | .none, _, x, _, _ => by
    cases x
    exact .non
  | .bool b, _, x, _, _ => by
    cases x
    exact .bl b
  | .int i, _, x, _, _ => by
    cases x
    exact .int i
  | .str s, _, x, _, _ => by
    cases x
    exact .str s
  | .bytes b, _, x, _, _ => by
    cases x
    have z := Dw.byt (K := K) (H := argH K h A) b.toArray
    exact z
  | .list ds, _, x, p, hu => by
    obtain ⟨a, vs, rfl, ho, hall⟩ := well_list x
    obtain ⟨h2, hs⟩ := argL KX ar hu ho
    exact .lst hs (dw_all KX ar ds _ hall p h2)
  | .tuple ds, _, x, p, hu => by
    obtain ⟨a, vs, rfl, ho, hall⟩ := well_tuple x
    obtain ⟨h2, hs⟩ := argT KX ar hu ho
    exact .tup hs (dw_all KX ar ds _ hall p h2)
  | .float _, _, _, p, _ => Bool.noConfusion (show false = true from p)
  | .dict _, _, _, p, _ => Bool.noConfusion (show false = true from p)
  | .bytearray _, _, _, p, _ => Bool.noConfusion (show false = true from p)
  | .set _, _, _, p, _ => Bool.noConfusion (show false = true from p)
  | .frozenset _, _, _, p, _ => Bool.noConfusion (show false = true from p)
  | .obj _ _, _, _, p, _ => Bool.noConfusion (show false = true from p)
theorem dw_all {Pm : Params} (KX : K.In h) (ar : ∀ a ∈ A, ArgOb h A a) : ∀ (ds : List WData) (vs : List Value), WellAll Pm h vs ds → plWs ds = true → (∀ u ∈ vs, OkU A u) → DwAll K (argH K h A) (vs.map toV) ds
  | [], _, x, _, _ => by
    cases x
    exact .nil
  | d :: ds, _, x, p, hu => by
    obtain ⟨v, vs, rfl, x1, x2⟩ := well_cons x
    have q : plW d = true ∧ plWs ds = true := Bool.and_eq_true_iff.mp p
    exact .cons (dw_one KX ar d v x1 q.1 (hu _ (List.mem_cons_self ..))) (dw_all KX ar ds vs x2 q.2 fun u m => hu u (List.mem_cons_of_mem _ m))
end
end
theorem spec_call {P : Program} {w : World} {K : PySem.W.Frag} {mg mb : Str → Option Value} {CX : CXT} {k : Nat} {fa : Addr} {fd : FuncData} {ps : List Str} {sp : Sp} {s₁ : Shared} {vals : List Value} {ds : List WData} {R : PySem.W.WRecords} {cl : Str → Option Addr} {d0 : WData}
    (KX : K.In s₁.heap) (hns : s₁.heap.Ns mainGlobals mg) (hb : s₁.heap.Ns builtinsNs mb) (hbb : ∀ x : Str, x ≠ "__name__" → mb x = bootBuiltins x) (hlim : s₁.heap.NoLimit) (hg : s₁.gens = #[])
    (hwl : WellAll w.params s₁.heap vals ds) (hpl : plWs ds = true) (hwt : ∀ d ∈ ds, d.weight ≤ 1048576) (hr : Room k callerA)
    (F : ∀ base : Heap, K.In base → base.Ns mainGlobals mg → FnOk P w K mg base CX k fa fd ps sp) (hbind : ∀ (s : Shared) (us : List Value), us.length = ps.length → BindsTo s fd ⟨us, []⟩ (ps.zip us)) (hlen : ds.length = ps.length)
    (hsp : ∀ (H : Hp) (xs : List V), OnlyF H → DwAll K H xs ds → sp xs H (fun v H' => Dw K H' v d0) fun _ _ _ => False)
    (hCX : ∀ H e s', CX [] H s₁ (fun _ _ _ => False) e s' → False) :
    codeAny (model P w) callerA (.call (.ref fa) ⟨vals, []⟩) (fun r s' => ∃ u as, r = .ok (.ret u) ∧ ReadsW R cl s'.heap u d0 as ∧ OldK s₁.heap s'.heap ∧ s'.os = s₁.os ∧ AllBare s'.gens) s₁ := by
  obtain ⟨A, ho, ar⟩ := area_all ds vals hwl hpl hwt
  have hO : OnlyF (argH K s₁.heap A) := argH_only ar
  have hok : HOk P w (argH K s₁.heap A) s₁.heap := argH_ok ar
  have hS := dw_all KX ar ds vals hwl hpl ho
  have hV := vals_toV ho
  have hK : ∀ b u, argH K s₁.heap A b = some u → K.lookup b = none := fun b u q => (argH_is ar q).1
  have noA : ∀ {b : Addr} {o : Obj} {es : Array DictEntry} {ep : Nat}, s₁.heap.get? b = some o → o.data = .dict es ep → argH K s₁.heap A b = none := fun {b o es ep} e d => by
    cases q : argH K s₁.heap A b with
    | none => rfl
    | some u =>
      obtain ⟨_, vs, _, _, ⟨e2, _⟩ | ⟨e2, _⟩⟩ := argH_is ar q
      · rw [e2] at e
        cases e
        have d' : Data.seq vs.toArray _ = Data.dict es ep := d
        cases d'
      · rw [e2] at e
        cases e
        have d' : Data.seq vs.toArray _ = Data.dict es ep := d
        cases d'
  generalize argH K s₁.heap A = H at hO hok hS hK noA
  have base_of : ∀ {b : Addr} {o : Obj}, s₁.heap.get? b = some o → H b = none → (hidT s₁.heap H).get? b = some o := fun e n => hidT_get e n
  have nsK : ∀ {b : Addr} {m : Str → Option Value}, s₁.heap.Ns b m → (hidT s₁.heap H).Ns b m := fun {b m} ⟨o, es, ep, e, d, r⟩ => ⟨o, es, ep, base_of e (noA e d), d, r⟩
  have nK : ∀ b o, K.lookup b = some o → H b = none := fun b o e => by
    cases q : H b with
    | none => rfl
    | some u =>
      rw [hK b u q] at e
      cases e
  have hKb : K.In (hidT s₁.heap H) := fun b o e => base_of (KX b o e) (nK b o e)
  have hM : Mod K mg (hidT s₁.heap H) := ⟨hKb, nsK hns, ⟨mb, nsK hb, hbb⟩, let ⟨mc, h1, h2⟩ := hlim; ⟨mc, nsK h1, h2⟩⟩
  have e0 : Env0 P w K mg (hidT s₁.heap H) callerA [] s₁ H := ⟨rfl, hM, fun b o e => of_hidT e, Nat.le_of_eq (hidT_size _ _), trivial, fun b hb => absurd (show b ∈ ([] : List Addr) from hb) (by simp), hok, .of_eq hg⟩
  have hl : vals.length = ps.length := by rw [wellAll_len hwl]; exact hlen
  refine codeAny_mono ((F _ hKb (nsK hns)).run callerA [] s₁ H ⟨vals, []⟩ vals (vals.map toV) _ _ hr e0 (hbind s₁ vals hl) hV (hsp H _ hO hS)) fun r s' x => ?_
  cases r with
  | error e => exact (hCX H e s' x).elim
  | ok fl =>
    cases fl with
    | next => exact False.elim x
    | brk => exact False.elim x
    | cont => exact False.elim x
    | ret u =>
      obtain ⟨v, H', os, bare, un, hok', r', q⟩ := x
      have kept : ∀ b o, s₁.heap.get? b = some o → s'.heap.get? b = some o := fun b o e => by
        cases q2 : H b with
        | none => exact un.keep b o e q2 (by intro z; exact absurd (show b ∈ ([] : List Addr) from z) (by simp)) (by simp)
        | some u2 =>
          rcases hO b with z | ⟨ob, u3, z⟩
          · rw [q2] at z
            cases z
          · have z2 := un.frzs b ob _ z
            obtain ⟨e1, _⟩ := hok b _ z
            obtain ⟨e2, _⟩ := hok' b _ z2
            rw [e] at e1
            cases e1
            exact e2
      have KX' : K.In s'.heap := fun b o e => kept b o (KX b o e)
      obtain ⟨as, hrd⟩ := Dw.reads (R := R) (cl := cl) hok' KX' d0 v u q r'
      exact ⟨u, as, rfl, hrd, OldK.of_keep kept, os, bare⟩
theorem layable_weight {ds : List WData} (h : WData.layableAll ds = true) : ∀ d ∈ ds, d.weight ≤ 1048576 := fun d hd =>
  (PySem.W.layableW_iff.mp (List.all_eq_true.mp h d hd)).2.2
theorem encAll_len : ∀ (cs : List Codec) (a : Codec.denoteAll cs), (Codec.encAll cs a).length = cs.length
  | [], _ => rfl
  | c :: cs, a => by
    show (Codec.encAll cs a.2).length + 1 = cs.length + 1
    rw [encAll_len cs a.2]
theorem walk_spec {r : OpenSpec} {k : Nat} {q : Program} {loose : List Str} {XP : (Str → Option Value) → Heap → Prop} {YP : World → Heap → Prop} {d : DefRec} {K : Params → PySem.W.Frag} {CX : World → CXT} {ps : List Str} {sp : World → Sp}
    (hwell : r.wellSaid = true) (hdf : d.params.defaults = []) (hlen : r.args.length = ps.length) (hr : Room k callerA)
    (hY : ∀ (w : World) (h : Heap), YP w h → (K w.params).In h)
    (F : ∀ (w : World) (mg : Str → Option Value) (fa : Addr) (h : Heap), YP w h → (K w.params).In h → h.Ns mainGlobals mg → mg d.name = some (.ref fa) →
      ∃ fd : FuncData, (∀ (s : Shared) (us : List Value), us.length = ps.length → BindsTo s fd ⟨us, []⟩ (ps.zip us)) ∧
        ∀ base : Heap, (K w.params).In base → base.Ns mainGlobals mg → FnOk r.prog w (K w.params) mg base (CX w) k fa fd ps (sp w))
    (hsp : ∀ (w : World) (H : Hp) (xs : List V) (a : Codec.denoteAll r.args), OnlyF H → Codec.withinAll r.args a = true → Codec.app r.args r.asked a = true → DwAll (K w.params) H xs (Codec.encAll r.args a) →
      sp w xs H (fun v H' => Dw (K w.params) H' v (r.ret.enc (Codec.app r.args r.f a))) fun _ _ _ => False)
    (hCX : ∀ (w : World) (H : Hp) (s : Shared) (e : Value) (s' : Shared), CX w [] H s (fun _ _ _ => False) e s' → False) :
    PySem.W.WalkOS q loose XP YP r d [] (fun f vs => PySem.call f vs) := by
  intro w s_0 s₁ mg mb G Y fa o pm cd doc dV kV ho hd hcd hD hmg hg args vals as hpre hlay hrd hwl hlo
  obtain ⟨a, e1, e2⟩ := PySem.W.os_pre_some hpre
  obtain ⟨e3, hwi⟩ := Codec.encAll_of_decAll r.args args a e1
  subst e3
  have KX := hY w _ Y
  obtain ⟨fd, hb, hF⟩ := F w mg fa _ Y KX G.T.g hmg
  refine PySem.W.enter_call (codeAny_mono (spec_call (R := []) (cl := classAt s_0.heap) (d0 := r.ret.enc (Codec.app r.args r.f a)) KX G.T.g G.T.b G.T.builtins G.T.nolimit hg hwl (pl_encAll _ _) (layable_weight hlay) hr hF hb (by rw [encAll_len]; exact hlen)
    (fun H xs hO hS => hsp w H xs a hO hwi e2 hS) fun H e s' => hCX w H s₁ e s') fun r' s' hq => ?_)
  obtain ⟨u, as', rfl, h1, h2, h3, h4⟩ := hq
  exact ⟨.inl ⟨u, _, as', rfl, fun _ => rfl, h1, (OpenSpec.post_iff hwell hwi _ _).mpr rfl, fun z => Bool.noConfusion (show false = true from z)⟩, h2, h3, h4⟩
theorem walk_specK {r : OpenSpec} {k : Nat} {q : Program} {loose : List Str} {XP : (Str → Option Value) → Heap → Prop} {YP : World → Heap → Prop} {d : DefRec} {K : Params → PySem.W.Frag} {CX : CXT} {ps : List Str} {sp : PySem.W.Frag → Sp}
    (hwell : r.wellSaid = true) (hdf : d.params.defaults = []) (hlen : r.args.length = ps.length) (hr : Room k callerA)
    (hY : ∀ (w : World) (h : Heap), YP w h → (K w.params).In h)
    (F : ∀ (w : World) (mg : Str → Option Value) (fa : Addr) (h : Heap), YP w h → (K w.params).In h → h.Ns mainGlobals mg → mg d.name = some (.ref fa) →
      ∃ fd : FuncData, (∀ (s : Shared) (us : List Value), us.length = ps.length → BindsTo s fd ⟨us, []⟩ (ps.zip us)) ∧
        ∀ base : Heap, (K w.params).In base → base.Ns mainGlobals mg → FnOk r.prog w (K w.params) mg base CX k fa fd ps (sp (K w.params)))
    (hsp : ∀ (K : PySem.W.Frag) (H : Hp) (xs : List V) (a : Codec.denoteAll r.args), OnlyF H → Codec.withinAll r.args a = true → Codec.app r.args r.asked a = true → DwAll K H xs (Codec.encAll r.args a) →
      sp K xs H (fun v H' => Dw K H' v (r.ret.enc (Codec.app r.args r.f a))) fun _ _ _ => False)
    (hCX : ∀ (H : Hp) (s : Shared) (e : Value) (s' : Shared), CX [] H s (fun _ _ _ => False) e s' → False) :
    PySem.W.WalkOS q loose XP YP r d [] (fun f vs => PySem.call f vs) :=
  walk_spec (K := K) (CX := fun _ => CX) (sp := fun w => sp (K w.params)) hwell hdf hlen hr hY F (fun w H xs a h1 h2 h3 h4 => hsp (K w.params) H xs a h1 h2 h3 h4) fun _ H s e s' => hCX H s e s'
end L2
end
end
section
local macro_rules | `(tactic| trivial) => `(tactic| first | lia -abstractProof | omega)
set_option linter.unusedVariables false
namespace Geo
abbrev V := Int × Int
def sd (a b p : V) : Int := (b.1 - a.1) * (p.2 - a.2) - (b.2 - a.2) * (p.1 - a.1)
def sg (a b p : V) : Int := (if a.2 ≤ p.2 ∧ p.2 < b.2 ∧ 0 < sd a b p then 1 else 0) - (if b.2 ≤ p.2 ∧ p.2 < a.2 ∧ sd a b p < 0 then 1 else 0)
def g (p q v : V) : Int := if p.2 < v.2 ∧ v.2 ≤ q.2 ∧ sd p q v < 0 then 1 else 0
def G (p q v : V) : Int := g p q v - g q p v
def hh (a b : V) : Int := if a.2 < b.2 ∨ (a.2 = b.2 ∧ b.1 < a.1) then 1 else 0
def lm (a b c d : V) : Prop :=
  (min a.1 b.1 ≤ max c.1 d.1 ∧ min c.1 d.1 ≤ max a.1 b.1) ∧ (min a.2 b.2 ≤ max c.2 d.2 ∧ min c.2 d.2 ≤ max a.2 b.2)
  ∧ sd a b c * sd a b d ≤ 0 ∧ sd c d a * sd c d b ≤ 0
instance (a b c d : V) : Decidable (lm a b c d) := by unfold lm; infer_instance
theorem pos_of {k A : Int} (hk : 0 ≤ k) (h : 0 < k * A) : 0 < A := by
  rcases Int.lt_or_le 0 A with h1 | h1
  · exact h1
  · have := Int.mul_nonneg hk (show 0 ≤ -A by trivial)
    rw [Int.mul_neg] at this
    trivial
theorem neg_of {k A : Int} (hk : 0 ≤ k) (h : k * A < 0) : A < 0 := by
  rcases Int.lt_or_le A 0 with h1 | h1
  · exact h1
  · have := Int.mul_nonneg hk h1
    trivial
theorem mul_neg_iff' {A B : Int} : A * B < 0 ↔ (0 < A ∧ B < 0) ∨ (A < 0 ∧ 0 < B) := by
  constructor
  · intro h
    rcases Int.lt_trichotomy A 0 with h1 | h1 | h1
    · right; refine ⟨h1, ?_⟩
      apply pos_of (k := -A) (by trivial)
      rw [Int.neg_mul]; trivial
    · subst h1; simp at h
    · left; exact ⟨h1, neg_of (by trivial) h⟩
  · rintro (⟨h1, h2⟩ | ⟨h1, h2⟩)
    · have := Int.mul_pos h1 (show 0 < -B by trivial)
      rw [Int.mul_neg] at this; trivial
    · have := Int.mul_pos (show 0 < -A by trivial) h2
      rw [Int.neg_mul] at this; trivial
theorem mul_pos_iff' {A B : Int} : 0 < A * B ↔ (0 < A ∧ 0 < B) ∨ (A < 0 ∧ B < 0) := by
  have := @mul_neg_iff' A (-B)
  rw [Int.mul_neg] at this
  constructor
  · intro h
    have := this.1 (by trivial)
    trivial
  · intro h
    have := this.2 (by trivial)
    trivial
theorem mul_nonpos_iff' {A B : Int} : A * B ≤ 0 ↔ (0 ≤ A ∧ B ≤ 0) ∨ (A ≤ 0 ∧ 0 ≤ B) := by
  have h1 := @mul_pos_iff' A B
  constructor
  · intro h
    have : ¬ (0 < A * B) := by trivial
    rw [h1] at this
    trivial
  · intro h
    have : ¬ ((0 < A ∧ 0 < B) ∨ (A < 0 ∧ B < 0)) := by trivial
    rw [← h1] at this
    trivial
theorem sg_swap (a b p : V) : sg b a p = - sg a b p := by
  have : sd b a p = - sd a b p := by simp only [sd]; grind -abstractProof
  unfold sg
  rw [this]
  have e1 : (0 < - sd a b p) ↔ sd a b p < 0 := by trivial
  have e2 : (- sd a b p < 0) ↔ 0 < sd a b p := by trivial
  simp only [e1, e2]
  trivial
theorem G_swap (p q v : V) : G q p v = - G p q v := by unfold G; trivial
theorem edge_R (p q a b : V) (R : Prop) (hpq : p.2 ≤ q.2) (hab : a.2 ≤ b.2)
  (F1 : a.2 ≤ p.2 → p.2 < b.2 → (0 < sd a b p ↔ R)) (F2 : a.2 ≤ q.2 → q.2 < b.2 → (0 < sd a b q ↔ R))
  (F3 : p.2 < b.2 → b.2 ≤ q.2 → (sd p q b < 0 ↔ R)) (F4 : p.2 < a.2 → a.2 ≤ q.2 → (sd p q a < 0 ↔ R)) :
  sg a b p - sg a b q = G p q b - G p q a := by
  have k1 : ¬ (b.2 ≤ p.2 ∧ p.2 < a.2 ∧ sd a b p < 0) := by trivial
  have k2 : ¬ (b.2 ≤ q.2 ∧ q.2 < a.2 ∧ sd a b q < 0) := by trivial
  have k3 : ¬ (q.2 < b.2 ∧ b.2 ≤ p.2 ∧ sd q p b < 0) := by trivial
  have k4 : ¬ (q.2 < a.2 ∧ a.2 ≤ p.2 ∧ sd q p a < 0) := by trivial
  have e1 : (a.2 ≤ p.2 ∧ p.2 < b.2 ∧ 0 < sd a b p) ↔ (a.2 ≤ p.2 ∧ p.2 < b.2 ∧ R) :=
    ⟨fun ⟨x, y, z⟩ => ⟨x, y, (F1 x y).1 z⟩, fun ⟨x, y, z⟩ => ⟨x, y, (F1 x y).2 z⟩⟩
  have e2 : (a.2 ≤ q.2 ∧ q.2 < b.2 ∧ 0 < sd a b q) ↔ (a.2 ≤ q.2 ∧ q.2 < b.2 ∧ R) :=
    ⟨fun ⟨x, y, z⟩ => ⟨x, y, (F2 x y).1 z⟩, fun ⟨x, y, z⟩ => ⟨x, y, (F2 x y).2 z⟩⟩
  have e3 : (p.2 < b.2 ∧ b.2 ≤ q.2 ∧ sd p q b < 0) ↔ (p.2 < b.2 ∧ b.2 ≤ q.2 ∧ R) :=
    ⟨fun ⟨x, y, z⟩ => ⟨x, y, (F3 x y).1 z⟩, fun ⟨x, y, z⟩ => ⟨x, y, (F3 x y).2 z⟩⟩
  have e4 : (p.2 < a.2 ∧ a.2 ≤ q.2 ∧ sd p q a < 0) ↔ (p.2 < a.2 ∧ a.2 ≤ q.2 ∧ R) :=
    ⟨fun ⟨x, y, z⟩ => ⟨x, y, (F4 x y).1 z⟩, fun ⟨x, y, z⟩ => ⟨x, y, (F4 x y).2 z⟩⟩
  unfold sg G g
  rw [if_neg k1, if_neg k2, if_neg k3, if_neg k4]
  by_cases hR : R
  · simp only [hR, and_true] at e1 e2 e3 e4
    simp only [e1, e2, e3, e4]
    split <;> split <;> split <;> split <;> trivial
  · simp only [hR, and_false, iff_false] at e1 e2 e3 e4
    simp only [if_neg e1, if_neg e2, if_neg e3, if_neg e4]
theorem I1 (p q a b : V) : (b.2 - p.2) * sd p q a + (p.2 - a.2) * sd p q b = (q.2 - p.2) * (- sd a b p) := by simp only [sd]; grind -abstractProof
theorem I2 (p q a b : V) : (b.2 - q.2) * sd p q a + (q.2 - a.2) * sd p q b = (q.2 - p.2) * (- sd a b q) := by simp only [sd]; grind -abstractProof
theorem I3 (p q a b : V) : (q.2 - b.2) * sd a b p + (b.2 - p.2) * sd a b q = (b.2 - a.2) * (- sd p q b) := by simp only [sd]; grind -abstractProof
theorem I4 (p q a b : V) : (q.2 - a.2) * sd a b p + (a.2 - p.2) * sd a b q = (b.2 - a.2) * (- sd p q a) := by simp only [sd]; grind -abstractProof
theorem right_of (a b p : V) (h1 : a.2 ≤ p.2) (h2 : p.2 < b.2) (h3 : p.1 < a.1) (h4 : p.1 < b.1) : 0 < sd a b p := by
  have e : sd a b p = (b.1 - p.1) * (p.2 - a.2) + (a.1 - p.1) * (b.2 - p.2) := by simp only [sd]; grind -abstractProof
  have := Int.mul_nonneg (show 0 ≤ b.1 - p.1 by trivial) (show 0 ≤ p.2 - a.2 by trivial)
  have := Int.mul_pos (show 0 < a.1 - p.1 by trivial) (show 0 < b.2 - p.2 by trivial)
  trivial
theorem left_of (a b p : V) (h1 : a.2 ≤ p.2) (h2 : p.2 < b.2) (h3 : a.1 < p.1) (h4 : b.1 < p.1) : sd a b p < 0 := by
  have e : sd a b p = -((p.1 - b.1) * (p.2 - a.2) + (p.1 - a.1) * (b.2 - p.2)) := by simp only [sd]; grind -abstractProof
  have := Int.mul_nonneg (show 0 ≤ p.1 - b.1 by trivial) (show 0 ≤ p.2 - a.2 by trivial)
  have := Int.mul_pos (show 0 < p.1 - a.1 by trivial) (show 0 < b.2 - p.2 by trivial)
  trivial
theorem right_of' (p q v : V) (h1 : p.2 < v.2) (h2 : v.2 ≤ q.2) (h3 : p.1 < v.1) (h4 : q.1 < v.1) : sd p q v < 0 := by
  have e : sd p q v = -((v.1 - q.1) * (v.2 - p.2) + (v.1 - p.1) * (q.2 - v.2)) := by simp only [sd]; grind -abstractProof
  have := Int.mul_nonneg (show 0 ≤ v.1 - p.1 by trivial) (show 0 ≤ q.2 - v.2 by trivial)
  have := Int.mul_pos (show 0 < v.1 - q.1 by trivial) (show 0 < v.2 - p.2 by trivial)
  trivial
theorem left_of' (p q v : V) (h1 : p.2 < v.2) (h2 : v.2 ≤ q.2) (h3 : v.1 < p.1) (h4 : v.1 < q.1) : 0 < sd p q v := by
  have e : sd p q v = ((q.1 - v.1) * (v.2 - p.2) + (p.1 - v.1) * (q.2 - v.2)) := by simp only [sd]; grind -abstractProof
  have := Int.mul_nonneg (show 0 ≤ p.1 - v.1 by trivial) (show 0 ≤ q.2 - v.2 by trivial)
  have := Int.mul_pos (show 0 < q.1 - v.1 by trivial) (show 0 < v.2 - p.2 by trivial)
  trivial
theorem edge_up (p q a b : V) (hpq : p.2 ≤ q.2) (hab : a.2 ≤ b.2) (h : ¬ lm p q a b) :
    sg a b p - sg a b q = G p q b - G p q a := by
  by_cases hx : min p.1 q.1 ≤ max a.1 b.1
  case neg =>
    apply edge_R p q a b False hpq hab
    · intro x y; have := left_of a b p x y (by trivial) (by trivial); simp; trivial
    · intro x y; have := left_of a b q x y (by trivial) (by trivial); simp; trivial
    · intro x y; have := left_of' p q b x y (by trivial) (by trivial); simp; trivial
    · intro x y; have := left_of' p q a x y (by trivial) (by trivial); simp; trivial
  by_cases hx' : min a.1 b.1 ≤ max p.1 q.1
  case neg =>
    apply edge_R p q a b True hpq hab
    · intro x y; have := right_of a b p x y (by trivial) (by trivial); simp; trivial
    · intro x y; have := right_of a b q x y (by trivial) (by trivial); simp; trivial
    · intro x y; have := right_of' p q b x y (by trivial) (by trivial); simp; trivial
    · intro x y; have := right_of' p q a x y (by trivial) (by trivial); simp; trivial
  by_cases hy : min p.2 q.2 ≤ max a.2 b.2 ∧ min a.2 b.2 ≤ max p.2 q.2
  case neg =>
    apply edge_R p q a b True hpq hab <;> (intro x y; exfalso; trivial)
  by_cases h3 : sd p q a * sd p q b ≤ 0
  case neg =>
    have h3' : 0 < sd p q a * sd p q b := by trivial
    rcases mul_pos_iff'.1 h3' with ⟨ha, hb⟩ | ⟨ha, hb⟩
    · apply edge_R p q a b False hpq hab
      · intro x y
        have i := I1 p q a b
        have := Int.mul_pos (show 0 < b.2 - p.2 by trivial) ha
        have := Int.mul_nonneg (show 0 ≤ p.2 - a.2 by trivial) (Int.le_of_lt hb)
        have := pos_of (A := - sd a b p) (show 0 ≤ q.2 - p.2 by trivial) (by trivial)
        simp; trivial
      · intro x y
        have i := I2 p q a b
        have := Int.mul_pos (show 0 < b.2 - q.2 by trivial) ha
        have := Int.mul_nonneg (show 0 ≤ q.2 - a.2 by trivial) (Int.le_of_lt hb)
        have := pos_of (A := - sd a b q) (show 0 ≤ q.2 - p.2 by trivial) (by trivial)
        simp; trivial
      · intro x y; simp; trivial
      · intro x y; simp; trivial
    · apply edge_R p q a b True hpq hab
      · intro x y
        have i := I1 p q a b
        have := Int.mul_pos (show 0 < b.2 - p.2 by trivial) (show 0 < - sd p q a by trivial)
        have := Int.mul_nonneg (show 0 ≤ p.2 - a.2 by trivial) (show 0 ≤ - sd p q b by trivial)
        simp only [Int.mul_neg] at *
        have := neg_of (A := - sd a b p) (show 0 ≤ q.2 - p.2 by trivial) (by rw [Int.mul_neg]; trivial)
        simp; trivial
      · intro x y
        have i := I2 p q a b
        have := Int.mul_pos (show 0 < b.2 - q.2 by trivial) (show 0 < - sd p q a by trivial)
        have := Int.mul_nonneg (show 0 ≤ q.2 - a.2 by trivial) (show 0 ≤ - sd p q b by trivial)
        simp only [Int.mul_neg] at *
        have := neg_of (A := - sd a b q) (show 0 ≤ q.2 - p.2 by trivial) (by rw [Int.mul_neg]; trivial)
        simp; trivial
      · intro x y; simp; trivial
      · intro x y; simp; trivial
  by_cases h4 : sd a b p * sd a b q ≤ 0
  · exact absurd ⟨⟨hx, hx'⟩, hy, h3, h4⟩ h
  · have h4' : 0 < sd a b p * sd a b q := by trivial
    rcases mul_pos_iff'.1 h4' with ⟨ha, hb⟩ | ⟨ha, hb⟩
    · apply edge_R p q a b True hpq hab
      · intro x y; simp; trivial
      · intro x y; simp; trivial
      · intro x y
        have i := I3 p q a b
        have := Int.mul_nonneg (show 0 ≤ q.2 - b.2 by trivial) (Int.le_of_lt ha)
        have := Int.mul_pos (show 0 < b.2 - p.2 by trivial) hb
        have := pos_of (A := - sd p q b) (show 0 ≤ b.2 - a.2 by trivial) (by trivial)
        simp; trivial
      · intro x y
        have i := I4 p q a b
        have := Int.mul_nonneg (show 0 ≤ q.2 - a.2 by trivial) (Int.le_of_lt ha)
        have := Int.mul_pos (show 0 < a.2 - p.2 by trivial) hb
        have := pos_of (A := - sd p q a) (show 0 ≤ b.2 - a.2 by trivial) (by trivial)
        simp; trivial
    · apply edge_R p q a b False hpq hab
      · intro x y; simp; trivial
      · intro x y; simp; trivial
      · intro x y
        have i := I3 p q a b
        have := Int.mul_nonneg (show 0 ≤ q.2 - b.2 by trivial) (show 0 ≤ - sd a b p by trivial)
        have := Int.mul_pos (show 0 < b.2 - p.2 by trivial) (show 0 < - sd a b q by trivial)
        simp only [Int.mul_neg] at *
        have := neg_of (A := - sd p q b) (show 0 ≤ b.2 - a.2 by trivial) (by rw [Int.mul_neg]; trivial)
        simp; trivial
      · intro x y
        have i := I4 p q a b
        have := Int.mul_nonneg (show 0 ≤ q.2 - a.2 by trivial) (show 0 ≤ - sd a b p by trivial)
        have := Int.mul_pos (show 0 < a.2 - p.2 by trivial) (show 0 < - sd a b q by trivial)
        simp only [Int.mul_neg] at *
        have := neg_of (A := - sd p q a) (show 0 ≤ b.2 - a.2 by trivial) (by rw [Int.mul_neg]; trivial)
        simp; trivial
theorem sd_swap (a b p : V) : sd b a p = - sd a b p := by simp only [sd]; grind -abstractProof
theorem lm_swap_l (a b c d : V) : lm b a c d ↔ lm a b c d := by
  unfold lm
  rw [sd_swap a b c, sd_swap a b d, Int.mul_comm (sd c d b), Int.neg_mul_neg]
  simp only [Int.min_comm b.1, Int.max_comm b.1, Int.min_comm b.2, Int.max_comm b.2]
theorem lm_comm (a b c d : V) : lm c d a b ↔ lm a b c d := by
  unfold lm
  constructor <;> (rintro ⟨⟨h1, h2⟩, ⟨h3, h4⟩, h5, h6⟩; exact ⟨⟨h2, h1⟩, ⟨h4, h3⟩, h6, h5⟩)
theorem lm_swap_r (a b c d : V) : lm a b d c ↔ lm a b c d := by
  rw [← lm_comm, lm_swap_l, lm_comm]
theorem edge (p q a b : V) (h : ¬ lm p q a b) : sg a b p - sg a b q = G p q b - G p q a := by
  rcases Int.le_total p.2 q.2 with hpq | hpq <;> rcases Int.le_total a.2 b.2 with hab | hab
  · exact edge_up p q a b hpq hab h
  · have := edge_up p q b a hpq hab (by rwa [lm_swap_r])
    rw [sg_swap a b p, sg_swap a b q] at this
    trivial
  · have := edge_up q p a b hpq hab (by rwa [lm_swap_l])
    rw [G_swap p q, G_swap p q] at this
    trivial
  · have := edge_up q p b a hpq hab (by rwa [lm_swap_l, lm_swap_r])
    rw [G_swap p q, G_swap p q, sg_swap a b p, sg_swap a b q] at this
    trivial
end Geo
end
section
local macro_rules | `(tactic| trivial) => `(tactic| first | lia -abstractProof | omega)
set_option linter.unusedVariables false
namespace Geo
theorem sd_cyc (a b c : V) : sd b c a = sd a b c := by simp only [sd]; grind -abstractProof
theorem sd_self_l (a b : V) : sd a b a = 0 := by simp only [sd]; grind -abstractProof
theorem sd_self_r (a b : V) : sd a b b = 0 := by simp only [sd]; grind -abstractProof
theorem sg_self_l (a b : V) : sg a b a = 0 := by unfold sg; rw [sd_self_l]; simp
theorem sg_self_r (a b : V) : sg a b b = 0 := by unfold sg; rw [sd_self_r]; simp
theorem sg_zero {a b p : V} (h : sd a b p = 0) : sg a b p = 0 := by unfold sg; rw [h]; simp
theorem G_zero {a b p : V} (h : sd a b p = 0) : G a b p = 0 := by
  unfold G g; rw [sd_swap a b p, h]; simp
def al (A v B : V) : Int := G v B A - sg A v B
def be (A v B : V) : Int := sg v B A - G A v B
set_option maxHeartbeats 2000000 in
theorem corner (A v B : V) (h : sd A v B ≠ 0) : al A v B + be A v B = hh v B - hh A v := by
  unfold al be G g sg hh
  have e1 : sd v B A = sd A v B := sd_cyc A v B
  have e2 : sd B v A = - sd A v B := by rw [sd_swap v B A, e1]
  have e3 : sd v A B = - sd A v B := sd_swap A v B
  rw [e1, e2, e3]
  have q1 : v.2 = B.2 → sd A v B = (B.1 - v.1) * (A.2 - v.2) := by
    intro e; rw [← e1]; simp only [sd]; rw [e]; grind -abstractProof
  have q2 : A.2 = v.2 → sd A v B = (v.1 - A.1) * (B.2 - A.2) := by
    intro e; simp only [sd]; rw [e]; grind -abstractProof
  generalize sd A v B = s at *
  have c1 : v.2 = B.2 → ((s < 0 ∧ ((v.1 < B.1 ∧ A.2 < v.2) ∨ (B.1 < v.1 ∧ v.2 < A.2))) ∨ (0 < s ∧ ((v.1 < B.1 ∧ v.2 < A.2) ∨ (B.1 < v.1 ∧ A.2 < v.2)))) := by
    intro e
    have q := q1 e
    rcases Int.lt_or_lt_of_ne h with hs | hs
    · left; refine ⟨hs, ?_⟩
      rw [q] at hs
      have := mul_neg_iff'.1 hs
      trivial
    · right; refine ⟨hs, ?_⟩
      rw [q] at hs
      have := mul_pos_iff'.1 hs
      trivial
  have c2 : A.2 = v.2 → ((s < 0 ∧ ((A.1 < v.1 ∧ B.2 < A.2) ∨ (v.1 < A.1 ∧ A.2 < B.2))) ∨ (0 < s ∧ ((A.1 < v.1 ∧ A.2 < B.2) ∨ (v.1 < A.1 ∧ B.2 < A.2)))) := by
    intro e
    have q := q2 e
    rcases Int.lt_or_lt_of_ne h with hs | hs
    · left; refine ⟨hs, ?_⟩
      rw [q] at hs
      have := mul_neg_iff'.1 hs
      trivial
    · right; refine ⟨hs, ?_⟩
      rw [q] at hs
      have := mul_pos_iff'.1 hs
      trivial
  clear q1 q2 e1 e2 e3
  obtain ⟨A1, A2⟩ := A
  obtain ⟨v1, v2⟩ := v
  obtain ⟨B1, B2⟩ := B
  simp only at *
  by_cases hvB : v2 = B2
  · have c := c1 hvB
    by_cases hAv : A2 = v2
    · exfalso
      clear c1 c2
      rcases c with ⟨_, (⟨_, k2⟩ | ⟨_, k2⟩)⟩ | ⟨_, (⟨_, k2⟩ | ⟨_, k2⟩)⟩ <;> trivial
    · clear c1 c2
      rcases c with ⟨hs, (⟨k1, k2⟩ | ⟨k1, k2⟩)⟩ | ⟨hs, (⟨k1, k2⟩ | ⟨k1, k2⟩)⟩ <;>
        (repeat' (split <;> try (exfalso; trivial))) <;> trivial
  · by_cases hAv : A2 = v2
    · have c := c2 hAv
      clear c1 c2
      rcases c with ⟨hs, (⟨k1, k2⟩ | ⟨k1, k2⟩)⟩ | ⟨hs, (⟨k1, k2⟩ | ⟨k1, k2⟩)⟩ <;>
        (repeat' (split <;> try (exfalso; trivial))) <;> trivial
    · clear c1 c2
      have hs : s < 0 ∨ 0 < s := by trivial
      rcases hs with hs | hs <;>
        rcases Int.lt_or_lt_of_ne hvB with k | k <;> rcases Int.lt_or_lt_of_ne hAv with l | l <;>
        rcases Int.lt_trichotomy A2 B2 with m | m | m <;>
        (repeat' (split <;> try (exfalso; trivial))) <;> trivial
end Geo
end
section
local macro_rules | `(tactic| trivial) => `(tactic| first | lia -abstractProof | omega)
set_option linter.unusedVariables false
namespace Geo
def sumN : Nat → (Nat → Int) → Int
  | 0, _ => 0
  | n + 1, f => sumN n f + f n
theorem sumN_congr {f g : Nat → Int} : ∀ (n : Nat), (∀ i, i < n → f i = g i) → sumN n f = sumN n g
  | 0, _ => rfl
  | n + 1, h => by simp only [sumN]; rw [sumN_congr n (fun i hi => h i (by trivial)), h n (by trivial)]
theorem sumN_add (f g : Nat → Int) : ∀ n, sumN n (fun i => f i + g i) = sumN n f + sumN n g
  | 0 => rfl
  | n + 1 => by simp only [sumN]; rw [sumN_add f g n]; trivial
theorem sumN_sub (f g : Nat → Int) : ∀ n, sumN n (fun i => f i - g i) = sumN n f - sumN n g
  | 0 => rfl
  | n + 1 => by simp only [sumN]; rw [sumN_sub f g n]; trivial
theorem sumN_tele (f : Nat → Int) : ∀ n, sumN n (fun i => f (i + 1) - f i) = f n - f 0
  | 0 => by simp [sumN]
  | n + 1 => by simp only [sumN]; rw [sumN_tele f n]; trivial
theorem sumN_zero {f : Nat → Int} : ∀ (n : Nat), (∀ i, i < n → f i = 0) → sumN n f = 0
  | 0, _ => rfl
  | n + 1, h => by simp only [sumN]; rw [sumN_zero n (fun i hi => h i (by trivial)), h n (by trivial)]; rfl
theorem sumN_head (f : Nat → Int) : ∀ n, sumN (n + 1) f = f 0 + sumN n (fun i => f (i + 1))
  | 0 => by simp [sumN]
  | n + 1 => by
    have := sumN_head f n
    simp only [sumN] at *
    trivial
theorem sumN_shift (f : Nat → Int) (n : Nat) (hp : ∀ i, f (i + n) = f i) : ∀ i, sumN n (fun k => f (i + k)) = sumN n f
  | 0 => by simp
  | i + 1 => by
    rw [← sumN_shift f n hp i]
    have h1 : sumN (n + 1) (fun k => f (i + k)) = sumN n (fun k => f (i + k)) + f (i + n) := rfl
    have h2 := sumN_head (fun k => f (i + k)) n
    have h3 := hp i
    simp only [Nat.add_zero] at h2
    have h4 : sumN n (fun k => f (i + 1 + k)) = sumN n (fun k => f (i + (k + 1))) :=
      sumN_congr n (fun k _ => by rw [show i + 1 + k = i + (k + 1) by trivial])
    trivial
theorem sumN_one {f : Nat → Int} (j : Nat) : ∀ (n : Nat), j < n → (∀ i, i < n → i ≠ j → f i = 0) → sumN n f = f j
  | 0, h, _ => by trivial
  | n + 1, h, hz => by
    simp only [sumN]
    by_cases e : j = n
    · subst e
      rw [sumN_zero j (fun i hi => hz i (by trivial) (by trivial))]; trivial
    · rw [sumN_one j n (by trivial) (fun i hi he => hz i (by trivial) he), hz n (by trivial) (by trivial)]; trivial
structure Mid (A b m : V) (s t : Int) : Prop where
  s0 : 0 < s
  t0 : 0 < t
  e1 : (s + t) * m.1 = s * A.1 + t * b.1
  e2 : (s + t) * m.2 = s * A.2 + t * b.2
theorem mid_box {x A b s t : Int} (s0 : 0 < s) (t0 : 0 < t) (e : (s + t) * x = s * A + t * b) : min A b ≤ x ∧ x ≤ max A b := by
  constructor
  · rcases Int.lt_or_le x (min A b) with h | h
    · have h1 := Int.mul_pos s0 (show 0 < A - x by trivial)
      have h2 := Int.mul_pos t0 (show 0 < b - x by trivial)
      rw [Int.mul_sub] at h1 h2
      rw [Int.add_mul] at e
      trivial
    · exact h
  · rcases Int.lt_or_le (max A b) x with h | h
    · have h1 := Int.mul_pos s0 (show 0 < x - A by trivial)
      have h2 := Int.mul_pos t0 (show 0 < x - b by trivial)
      rw [Int.mul_sub] at h1 h2
      rw [Int.add_mul] at e
      trivial
    · exact h
theorem mid_sd {A b m c d : V} {s t : Int} (h : Mid A b m s t) : (s + t) * sd c d m = s * sd c d A + t * sd c d b := by
  have h1 := h.e1
  have h2 := h.e2
  simp only [sd]
  have : (s + t) * ((d.1 - c.1) * (m.2 - c.2) - (d.2 - c.2) * (m.1 - c.1)) = (d.1 - c.1) * ((s + t) * m.2 - (s + t) * c.2) - (d.2 - c.2) * ((s + t) * m.1 - (s + t) * c.1) := by grind -abstractProof
  rw [this, h1, h2]
  grind -abstractProof
theorem mid_sd' {A b m c : V} {s t : Int} (h : Mid A b m s t) : (s + t) * sd m b c = s * sd A b c := by
  have h1 := h.e1
  have h2 := h.e2
  simp only [sd]
  have : (s + t) * ((b.1 - m.1) * (c.2 - m.2) - (b.2 - m.2) * (c.1 - m.1)) = ((s + t) * b.1 - (s + t) * m.1) * (c.2 - b.2) - ((s + t) * b.2 - (s + t) * m.2) * (c.1 - b.1) := by grind -abstractProof
  rw [this, h1, h2]
  grind -abstractProof
theorem sign_same {k l X Y : Int} (hk : 0 < k) (hl : 0 < l) (e : k * X = l * Y) : (0 < X ↔ 0 < Y) ∧ (X < 0 ↔ Y < 0) := by
  refine ⟨⟨fun h => ?_, fun h => ?_⟩, ⟨fun h => ?_, fun h => ?_⟩⟩
  · have := Int.mul_pos hk h
    exact pos_of (Int.le_of_lt hl) (by trivial)
  · have := Int.mul_pos hl h
    exact pos_of (Int.le_of_lt hk) (by trivial)
  · have := mul_neg_iff'.2 (.inl ⟨hk, h⟩)
    exact neg_of (Int.le_of_lt hl) (by trivial)
  · have := mul_neg_iff'.2 (.inl ⟨hl, h⟩)
    exact neg_of (Int.le_of_lt hk) (by trivial)
theorem lm_sub {A b m c d : V} {s t : Int} (h : Mid A b m s t) (hl : lm m b c d) : lm A b c d := by
  obtain ⟨⟨a1, a2⟩, ⟨a3, a4⟩, a5, a6⟩ := hl
  have b1 := mid_box h.s0 h.t0 h.e1
  have b2 := mid_box h.s0 h.t0 h.e2
  refine ⟨⟨by trivial, by trivial⟩, ⟨by trivial, by trivial⟩, ?_, ?_⟩
  · have k1 := sign_same (by have := h.s0; have := h.t0; trivial) h.s0 (mid_sd' (c := c) h)
    have k2 := sign_same (by have := h.s0; have := h.t0; trivial) h.s0 (mid_sd' (c := d) h)
    rw [mul_nonpos_iff'] at a5 ⊢
    trivial
  · have k := mid_sd (c := c) (d := d) h
    have s0 := h.s0
    have t0 := h.t0
    apply Int.not_lt.1
    intro hp
    rcases mul_pos_iff'.1 hp with ⟨p1, p2⟩ | ⟨p1, p2⟩
    · have := Int.mul_pos s0 p1
      have := Int.mul_pos t0 p2
      have : 0 < sd c d m := pos_of (k := s + t) (by trivial) (by trivial)
      have := Int.mul_pos this p2
      trivial
    · have := mul_neg_iff'.2 (.inl ⟨s0, p1⟩)
      have := mul_neg_iff'.2 (.inl ⟨t0, p2⟩)
      have : sd c d m < 0 := neg_of (k := s + t) (by trivial) (by trivial)
      have := mul_pos_iff'.2 (.inr ⟨this, p2⟩)
      trivial
theorem mid_of_height {A b m : V} (hc : sd A b m = 0) (hh : (A.2 < m.2 ∧ m.2 < b.2) ∨ (b.2 < m.2 ∧ m.2 < A.2)) :
    ∃ s t, Mid A b m s t := by
  rcases hh with ⟨h1, h2⟩ | ⟨h1, h2⟩
  · refine ⟨b.2 - m.2, m.2 - A.2, by trivial, by trivial, ?_, ?_⟩
    · simp only [sd] at hc; grind -abstractProof
    · grind -abstractProof
  · refine ⟨m.2 - b.2, A.2 - m.2, by trivial, by trivial, ?_, ?_⟩
    · simp only [sd] at hc; grind -abstractProof
    · grind -abstractProof
end Geo
end
section
local macro_rules | `(tactic| trivial) => `(tactic| first | lia -abstractProof | omega)
set_option linter.unusedVariables false
namespace Geo
structure Poly (n : Nat) (v : Nat → V) : Prop where
  n3 : 3 ≤ n
  per : ∀ i, v (i + n) = v i
  cor : ∀ i, sd (v i) (v (i + 1)) (v (i + 2)) ≠ 0
  far : ∀ i k, 2 ≤ k → k + 2 ≤ n → ¬ lm (v i) (v (i + 1)) (v (i + k)) (v (i + k + 1))
def wn (n : Nat) (v : Nat → V) (p : V) : Int := sumN n (fun j => sg (v j) (v (j + 1)) p)
def dis (v : Nat → V) (p q : V) (j : Nat) : Int := sg (v j) (v (j + 1)) p - sg (v j) (v (j + 1)) q - (G p q (v (j + 1)) - G p q (v j))
theorem wn_dis {n : Nat} {v : Nat → V} (per : ∀ i, v (i + n) = v i) (p q : V) (i : Nat) :
    wn n v p - wn n v q = sumN n (fun k => dis v p q (i + k)) := by
  have h1 : ∀ j, dis v p q (j + n) = dis v p q j := by
    intro j
    unfold dis
    rw [per j, show j + n + 1 = (j + 1) + n by trivial, per (j + 1)]
  rw [sumN_shift (dis v p q) n h1 i]
  unfold dis wn
  rw [sumN_sub, sumN_sub, sumN_tele (fun i => G p q (v i)) n]
  have : v n = v 0 := by have := per 0; simpa using this
  rw [this]
  trivial
theorem dis_zero {v : Nat → V} {p q : V} {j : Nat} (h : ¬ lm p q (v j) (v (j + 1))) : dis v p q j = 0 := by
  unfold dis; rw [edge p q _ _ h]; trivial
theorem wn_free {n : Nat} {v : Nat → V} (per : ∀ i, v (i + n) = v i) {p q : V} (h : ∀ j, j < n → ¬ lm p q (v j) (v (j + 1))) :
    wn n v p = wn n v q := by
  have := wn_dis per p q 0
  rw [sumN_zero n (fun k hk => by rw [Nat.zero_add]; exact dis_zero (h k hk))] at this
  trivial
theorem wn_step {n : Nat} {v : Nat → V} (P : Poly n v) (i : Nat) :
    wn n v (v (i + 1)) - wn n v (v (i + 2)) = al (v i) (v (i + 1)) (v (i + 2)) + be (v (i + 1)) (v (i + 2)) (v (i + 3)) := by
  rw [wn_dis P.per _ _ i]
  obtain ⟨m, hm⟩ : ∃ m, n = m + 3 := ⟨n - 3, by have := P.n3; trivial⟩
  subst hm
  rw [sumN_head, sumN_head, sumN_head]
  rw [sumN_zero m (fun k hk => ?_)]
  · have d0 : dis v (v (i + 1)) (v (i + 2)) (i + 0) = al (v i) (v (i + 1)) (v (i + 2)) := by
      unfold dis al
      rw [Nat.add_zero, sg_self_r, G_zero (sd_self_l _ _)]; trivial
    have d1 : dis v (v (i + 1)) (v (i + 2)) (i + (0 + 1)) = 0 := by
      unfold dis
      rw [show i + (0 + 1) = i + 1 by trivial, show i + 1 + 1 = i + 2 by trivial, sg_self_r, sg_self_l, G_zero (sd_self_l _ _), G_zero (sd_self_r _ _)]; trivial
    have d2 : dis v (v (i + 1)) (v (i + 2)) (i + (0 + 1 + 1)) = be (v (i + 1)) (v (i + 2)) (v (i + 3)) := by
      unfold dis be
      rw [show i + (0 + 1 + 1) = i + 2 by trivial, show i + 2 + 1 = i + 3 by trivial, sg_self_l, G_zero (sd_self_r _ _)]; trivial
    rw [d0, d1, d2]; trivial
  · apply dis_zero
    have := P.far (i + 1) (k + 2) (by trivial) (by trivial)
    rw [show i + 1 + (k + 2) = i + (k + 1 + 1 + 1) by trivial, show i + 1 + 1 = i + 2 by trivial] at this
    exact this
def lefty (n : Nat) (v : Nat → V) (i : Nat) : Int := wn n v (v (i + 1)) + be (v i) (v (i + 1)) (v (i + 2)) + hh (v i) (v (i + 1))
theorem lefty_next {n : Nat} {v : Nat → V} (P : Poly n v) (i : Nat) : lefty n v (i + 1) = lefty n v i := by
  have h1 := wn_step P i
  have h2 := corner _ _ _ (P.cor i)
  unfold lefty
  rw [show i + 1 + 1 = i + 2 by trivial, show i + 1 + 2 = i + 3 by trivial]
  trivial
theorem lefty_all {n : Nat} {v : Nat → V} (P : Poly n v) : ∀ i, lefty n v i = lefty n v 0
  | 0 => rfl
  | i + 1 => by rw [lefty_next P, lefty_all P i]
theorem be_mid {A v B m : V} {s t : Int} (h : Mid A v m s t) (hs : sd A v B ≠ 0) (hne : (A.2 < m.2 ∧ m.2 < v.2) ∨ (v.2 < m.2 ∧ m.2 < A.2))
    (hc : sd A v m = 0) : be m v B = be A v B := by
  have s0 := h.s0
  have t0 := h.t0
  have c1 : sd v B A = sd A v B := sd_cyc A v B
  have c2 : sd v B m = sd m v B := sd_cyc m v B
  have k1 := sign_same (by trivial) s0 (mid_sd' (c := B) h)
  have far : ¬ lm A m v B := by
    rintro ⟨-, -, -, h4⟩
    rw [c1, c2] at h4
    rw [mul_nonpos_iff'] at h4
    trivial
  have e := edge A m v B far
  have z1 : sd A m v = 0 := by rw [← sd_cyc A m v, ← sd_cyc m v A, sd_swap, hc]; rfl
  rw [G_zero z1] at e
  have h1 : Mid v A m t s := ⟨t0, s0, by have := h.e1; grind -abstractProof, by have := h.e2; grind -abstractProof⟩
  have k2 := sign_same (by trivial) t0 (mid_sd' (c := B) h1)
  have n1 : sd m A B = - sd A m B := sd_swap _ _ _
  have n2 : sd v A B = - sd A v B := sd_swap _ _ _
  have n3 : sd v m B = - sd m v B := sd_swap _ _ _
  have : G A v B = G A m B + G m v B := by
    unfold G g
    rw [n1, n2, n3]
    rw [n1, n2] at k2
    rcases hne with ⟨x1, x2⟩ | ⟨x1, x2⟩ <;> rcases Int.lt_or_lt_of_ne hs with hs | hs <;> (repeat' (split <;> try (exfalso; trivial))) <;> trivial
  unfold be
  trivial
theorem wn_on {n : Nat} {v : Nat → V} (P : Poly n v) (i : Nat) (m : V) (hc : sd (v i) (v (i + 1)) m = 0)
    (hne : ((v i).2 < m.2 ∧ m.2 < (v (i + 1)).2) ∨ ((v (i + 1)).2 < m.2 ∧ m.2 < (v i).2)) :
    wn n v m = lefty n v 0 - hh (v i) (v (i + 1)) := by
  obtain ⟨s, t, hm⟩ := mid_of_height hc hne
  have s0 := hm.s0
  have t0 := hm.t0
  have hn3 := P.n3
  rw [← lefty_all P i]
  unfold lefty
  have hd := wn_dis P.per m (v (i + 1)) i
  obtain ⟨l, hl⟩ : ∃ m, n = m + 3 := ⟨n - 3, by trivial⟩
  have d0 : dis v m (v (i + 1)) (i + 0) = 0 := by
    unfold dis
    rw [Nat.add_zero, sg_self_r, sg_zero hc, G_zero (sd_self_r _ _), G_zero]; rfl
    rw [← sd_cyc m, sd_swap, ]
    have := sd_cyc (v i) (v (i + 1)) m
    have := sd_cyc (v (i + 1)) m (v i)
    rw [sd_swap] at *
    trivial
  have d1 : dis v m (v (i + 1)) (i + (0 + 1)) = be (v i) (v (i + 1)) (v (i + 2)) := by
    rw [← be_mid hm (P.cor i) hne hc]
    unfold dis be
    rw [show i + (0 + 1) = i + 1 by trivial, show i + 1 + 1 = i + 2 by trivial, sg_self_l, G_zero (sd_self_r _ _)]; trivial
  have dk : ∀ k, k < l → dis v m (v (i + 1)) (i + (k + 1 + 1)) = 0 := by
    intro k hk
    apply dis_zero
    intro hx
    have := P.far i (k + 2) (by trivial) (by trivial)
    exact this (lm_sub hm hx)
  have de : dis v m (v (i + 1)) (i + (l + 1 + 1)) = 0 := by
    apply dis_zero
    rintro ⟨-, -, -, h4⟩
    have hp : v (i + (l + 1 + 1) + 1) = v i := by
      rw [show i + (l + 1 + 1) + 1 = i + n by trivial, P.per]
    have hcor := P.cor (i + (l + 1 + 1))
    rw [hp, show i + (l + 1 + 1) + 2 = (i + 1) + n by trivial, P.per] at hcor
    rw [hp] at h4
    have key := mid_sd (c := v (i + (l + 1 + 1))) (d := v i) hm
    rw [sd_self_r] at key
    have kk := sign_same (k := s + t) (l := t) (X := sd (v (i + (l + 1 + 1))) (v i) m) (Y := sd (v (i + (l + 1 + 1))) (v i) (v (i + 1))) (by trivial) t0 (by trivial)
    rw [mul_nonpos_iff'] at h4
    trivial
  rw [hl, sumN_head, sumN_head] at hd
  rw [show (l + 1) = Nat.succ l from rfl] at hd
  simp only [sumN] at hd
  rw [sumN_zero l dk, d0, d1, de] at hd
  rw [hl]
  trivial
end Geo
end
section
local macro_rules | `(tactic| trivial) => `(tactic| first | lia -abstractProof | omega)
set_option linter.unusedVariables false
namespace Geo
def dbl (a : V) : V := (2 * a.1, 2 * a.2)
theorem sd_dbl (a b c : V) : sd (dbl a) (dbl b) (dbl c) = 4 * sd a b c := by simp only [sd, dbl]; grind -abstractProof
theorem mm2 (a b c d : Int) : min (2 * a) (2 * b) ≤ max (2 * c) (2 * d) ↔ min a b ≤ max c d := by
  have e1 : min (2 * a) (2 * b) = 2 * min a b := by trivial
  have e2 : max (2 * c) (2 * d) = 2 * max c d := by trivial
  rw [e1, e2]; trivial
theorem lm_dbl (a b c d : V) : lm (dbl a) (dbl b) (dbl c) (dbl d) ↔ lm a b c d := by
  unfold lm
  rw [sd_dbl, sd_dbl, sd_dbl, sd_dbl]
  have e : ∀ x y : Int, (4 * x * (4 * y) ≤ 0) ↔ x * y ≤ 0 := by
    intro x y
    have : 4 * x * (4 * y) = 16 * (x * y) := by grind -abstractProof
    rw [this]; trivial
  rw [e, e]
  simp only [dbl, mm2]
theorem Poly.dbl {n : Nat} {u : Nat → V} (P : Poly n u) : Poly n (fun i => dbl (u i)) :=
  ⟨P.n3, fun i => by simp only [P.per i], fun i => by
    have := P.cor i
    simp only [sd_dbl]; trivial, fun i k h1 h2 => by
    rw [lm_dbl]; exact P.far i k h1 h2⟩
def Oct (a b : V) : Prop := b.1 - a.1 = 0 ∨ b.2 - a.2 = 0 ∨ b.1 - a.1 = b.2 - a.2 ∨ b.1 - a.1 = -(b.2 - a.2)
theorem Oct.dbl {a b : V} (h : Oct a b) : Oct (dbl a) (dbl b) := by
  unfold Oct Geo.dbl at *
  simp only
  trivial
theorem oct_sd {a b : V} (h : Oct a b) (hne : a.2 ≠ b.2) : ∃ σ : Int, (σ = -1 ∨ σ = 0 ∨ σ = 1) ∧ ∀ p : V, sd a b p = (b.2 - a.2) * (a.1 + σ * (p.2 - a.2) - p.1) := by
  rcases h with h | h | h | h
  · exact ⟨0, by trivial, fun p => by simp only [sd]; rw [h]; grind -abstractProof⟩
  · trivial
  · exact ⟨1, by trivial, fun p => by simp only [sd]; rw [h]; grind -abstractProof⟩
  · exact ⟨-1, by trivial, fun p => by simp only [sd]; rw [h]; grind -abstractProof⟩
def hit (a b m : V) : Prop := sd a b m = 0 ∧ ((a.2 < m.2 ∧ m.2 < b.2) ∨ (b.2 < m.2 ∧ m.2 < a.2))
theorem sign_mul {H K : Int} (hH : 0 < H) : (0 < H * K ↔ 0 < K) ∧ (H * K < 0 ↔ K < 0) ∧ (H * K = 0 ↔ K = 0) := by
  refine ⟨⟨fun h => pos_of (by trivial) h, fun h => Int.mul_pos hH h⟩, ⟨fun h => neg_of (by trivial) h, fun h => mul_neg_iff'.2 (.inl ⟨hH, h⟩)⟩, ?_⟩
  constructor
  · intro h
    rcases Int.mul_eq_zero.1 h with h | h
    · trivial
    · exact h
  · rintro rfl; simp
theorem sg_up {a b : V} (p : V) (hl : a.2 < b.2) : sg a b p = if a.2 ≤ p.2 ∧ p.2 < b.2 ∧ 0 < sd a b p then 1 else 0 := by
  unfold sg
  rw [if_neg (c := b.2 ≤ p.2 ∧ p.2 < a.2 ∧ sd a b p < 0) (fun k => by have := k.1; have := k.2.1; omega)]
  exact Int.sub_zero _
theorem sg_dn {a b : V} (p : V) (hl : b.2 < a.2) : sg a b p = -(if b.2 ≤ p.2 ∧ p.2 < a.2 ∧ sd a b p < 0 then 1 else 0) := by
  unfold sg
  rw [if_neg (c := a.2 ≤ p.2 ∧ p.2 < b.2 ∧ 0 < sd a b p) (fun k => by have := k.1; have := k.2.1; omega)]
  exact Int.zero_sub _
theorem ite3 {P Q R : Prop} [Decidable P] [Decidable Q] [Decidable R] (hQ : Q → P) (hR : R ↔ P ∧ ¬ Q) :
    ((if P then 1 else 0 : Int) - (if Q then 1 else 0)) = if R then 1 else 0 := by
  by_cases hp : P <;> by_cases hq : Q
  · rw [if_pos hp, if_pos hq, if_neg (fun r => (hR.1 r).2 hq)]; rfl
  · rw [if_pos hp, if_neg hq, if_pos (hR.2 ⟨hp, hq⟩)]; rfl
  · exact absurd (hQ hq) hp
  · rw [if_neg hp, if_neg hq, if_neg (fun r => hp (hR.1 r).1)]; rfl
theorem left_up (A B y H X x : Int) (hH : 0 < H) (ha : A ≠ y) (hb : B ≠ y) :
    ((if A ≤ y ∧ y < B ∧ 0 < H * (X - x) then 1 else 0 : Int) - (if A ≤ y ∧ y < B ∧ 0 < H * (X - (x + 1)) then 1 else 0)) = if H * (X - (x + 1)) = 0 ∧ A < y ∧ y < B then 1 else 0 := by
  refine ite3 (fun k => ⟨k.1, k.2.1, (sign_mul hH).1.2 ?_⟩) ⟨fun k => ⟨⟨Int.le_of_lt k.2.1, k.2.2, (sign_mul hH).1.2 ?_⟩, fun z => ?_⟩, fun k => ⟨(sign_mul hH).2.2.2 ?_, ?_, k.1.2.1⟩⟩
  · have := (sign_mul hH).1.1 k.2.2; omega
  · have := (sign_mul hH).2.2.1 k.1; omega
  · have := (sign_mul hH).1.1 z.2.2; have := (sign_mul hH).2.2.1 k.1; omega
  · have k1 := (sign_mul hH).1.1 k.1.2.2
    have k2 : ¬ 0 < X - (x + 1) := fun z => k.2 ⟨k.1.1, k.1.2.1, (sign_mul hH).1.2 z⟩
    omega
  · have := k.1.1; omega
theorem sg_left {a b : V} (h : Oct a b) (x y : Int) (ha : a.2 ≠ y) (hb : b.2 ≠ y) :
    (hit a b (x + 1, y) → sg a b (x, y) - sg a b (x + 1, y) = 2 * hh a b - 1) ∧ (¬ hit a b (x + 1, y) → sg a b (x, y) - sg a b (x + 1, y) = 0) := by
  by_cases hne : a.2 = b.2
  · refine ⟨fun hx => ?_, fun _ => ?_⟩
    · unfold hit at hx; simp only at hx; omega
    · unfold sg; simp only; rw [hne]
      rw [if_neg (fun k => by have := k.1; have := k.2.1; omega), if_neg (fun k => by have := k.1; have := k.2.1; omega), if_neg (fun k => by have := k.1; have := k.2.1; omega), if_neg (fun k => by have := k.1; have := k.2.1; omega)]; rfl
  · obtain ⟨σ, hσ, hs⟩ := oct_sd h hne
    clear h hσ
    rcases Int.lt_or_lt_of_ne hne with hl | hl
    · rw [sg_up _ hl, sg_up _ hl, hs, hs]
      have e := left_up a.2 b.2 y (b.2 - a.2) (a.1 + σ * (y - a.2)) x (Int.sub_pos_of_lt hl) ha hb
      have hi : hit a b (x + 1, y) ↔ (b.2 - a.2) * (a.1 + σ * (y - a.2) - (x + 1)) = 0 ∧ a.2 < y ∧ y < b.2 := by
        unfold hit; rw [hs]
        exact ⟨fun k => ⟨k.1, k.2.resolve_right (fun z => by have := z.1; have := z.2; simp only at *; omega)⟩, fun k => ⟨k.1, Or.inl k.2⟩⟩
      have h1 : hh a b = 1 := if_pos (Or.inl hl)
      refine ⟨fun k => ?_, fun k => ?_⟩
      · rw [h1]; exact e.trans (if_pos (hi.1 k))
      · exact e.trans (if_neg (fun z => k (hi.2 z)))
    · have e0 : ∀ K : Int, (b.2 - a.2) * K < 0 ↔ 0 < (a.2 - b.2) * K := by
        intro K
        have : (b.2 - a.2) * K = -((a.2 - b.2) * K) := by rw [← Int.neg_mul, Int.neg_sub]
        rw [this]; omega
      have e1 : ∀ K : Int, (b.2 - a.2) * K = 0 ↔ (a.2 - b.2) * K = 0 := by
        intro K
        have : (b.2 - a.2) * K = -((a.2 - b.2) * K) := by rw [← Int.neg_mul, Int.neg_sub]
        rw [this]; omega
      rw [sg_dn _ hl, sg_dn _ hl, hs, hs]
      simp only [e0]
      have e := left_up b.2 a.2 y (a.2 - b.2) (a.1 + σ * (y - a.2)) x (Int.sub_pos_of_lt hl) hb ha
      have hi : hit a b (x + 1, y) ↔ (a.2 - b.2) * (a.1 + σ * (y - a.2) - (x + 1)) = 0 ∧ b.2 < y ∧ y < a.2 := by
        unfold hit; rw [hs, e1]
        exact ⟨fun k => ⟨k.1, k.2.resolve_left (fun z => by have := z.1; have := z.2; simp only at *; omega)⟩, fun k => ⟨k.1, Or.inr k.2⟩⟩
      have h1 : hh a b = 0 := if_neg (fun k => by rcases k with k | k <;> omega)
      refine ⟨fun k => ?_, fun k => ?_⟩
      · rw [h1]; refine (show ∀ u v : Int, -u - -v = -(u - v) by intro u v; omega) _ _ |>.trans ?_; exact congrArg Neg.neg (e.trans (if_pos (hi.1 k)))
      · refine (show ∀ u v : Int, -u - -v = -(u - v) by intro u v; omega) _ _ |>.trans ?_; exact congrArg Neg.neg (e.trans (if_neg (fun z => k (hi.2 z))))
theorem sg_far {a b p : V} (h1 : a.1 < p.1) (h2 : b.1 < p.1) : sg a b p = 0 := by
  unfold sg
  rw [if_neg, if_neg]; rfl
  · rintro ⟨x, y, z⟩
    have := left_of b a p x y h2 h1
    rw [sd_swap] at this
    trivial
  · rintro ⟨x, y, z⟩
    have := left_of a b p x y h1 h2
    trivial
theorem hit_near {a b p : V} (h : hit a b p) : ¬ (a.1 < p.1 ∧ b.1 < p.1) := by
  rintro ⟨h1, h2⟩
  rcases h with ⟨h0, h3 | h3⟩
  · have := left_of a b p (by trivial) (by trivial) h1 h2; trivial
  · have := left_of b a p (by trivial) (by trivial) h2 h1
    rw [sd_swap] at this; trivial
theorem hit_meet {a b c d m : V} (h1 : hit a b m) (h2 : hit c d m) : lm a b c d := by
  obtain ⟨s, t, k1⟩ := mid_of_height h1.1 h1.2
  obtain ⟨s', t', k2⟩ := mid_of_height h2.1 h2.2
  have a1 := mid_box k1.s0 k1.t0 k1.e1
  have a2 := mid_box k1.s0 k1.t0 k1.e2
  have b1 := mid_box k2.s0 k2.t0 k2.e1
  have b2 := mid_box k2.s0 k2.t0 k2.e2
  have s0 := k1.s0
  have t0 := k1.t0
  have s0' := k2.s0
  have t0' := k2.t0
  have m1 := mid_sd (c := a) (d := b) k2
  have m2 := mid_sd (c := c) (d := d) k1
  rw [h1.1] at m1
  rw [h2.1] at m2
  refine ⟨⟨by trivial, by trivial⟩, ⟨by trivial, by trivial⟩, ?_, ?_⟩
  · apply Int.not_lt.1
    intro hp
    rcases mul_pos_iff'.1 hp with ⟨p1, p2⟩ | ⟨p1, p2⟩
    · have := Int.mul_pos s0' p1
      have := Int.mul_pos t0' p2
      trivial
    · have := mul_neg_iff'.2 (.inl ⟨s0', p1⟩)
      have := mul_neg_iff'.2 (.inl ⟨t0', p2⟩)
      trivial
  · apply Int.not_lt.1
    intro hp
    rcases mul_pos_iff'.1 hp with ⟨p1, p2⟩ | ⟨p1, p2⟩
    · have := Int.mul_pos s0 p1
      have := Int.mul_pos t0 p2
      trivial
    · have := mul_neg_iff'.2 (.inl ⟨s0, p1⟩)
      have := mul_neg_iff'.2 (.inl ⟨t0, p2⟩)
      trivial
theorem hit_next {a b c m : V} (h1 : hit a b m) (h2 : hit b c m) : sd a b c = 0 := by
  obtain ⟨s', t', k2⟩ := mid_of_height h2.1 h2.2
  have m1 := mid_sd (c := a) (d := b) k2
  rw [h1.1, sd_self_r] at m1
  have := (sign_mul (K := sd a b c) k2.t0).2.2.1 (by trivial)
  exact this
theorem hit_one {n : Nat} {v : Nat → V} (P : Poly n v) {m : V} {i k : Nat} (hk : k < n) (h1 : hit (v i) (v (i + 1)) m)
    (h2 : hit (v (i + k)) (v (i + k + 1)) m) : k = 0 := by
  by_cases k0 : k = 0
  · exact k0
  exfalso
  by_cases k1 : k = 1
  · subst k1
    exact P.cor i (hit_next h1 h2)
  by_cases kn : k + 1 = n
  · have e : v (i + k + 1) = v i := by rw [show i + k + 1 = i + n by trivial, P.per]
    rw [e] at h2
    have := P.cor (i + k)
    rw [e, show i + k + 2 = (i + 1) + n by trivial, P.per] at this
    exact this (hit_next h2 h1)
  exact P.far i k (by trivial) (by trivial) (hit_meet h1 h2)
theorem hit_uniq {n : Nat} {v : Nat → V} (P : Poly n v) {m : V} {i j : Nat} (hi : i < n) (hj : j < n) (h1 : hit (v i) (v (i + 1)) m)
    (h2 : hit (v j) (v (j + 1)) m) : i = j := by
  rcases Nat.le_total i j with h | h
  · have := hit_one P (i := i) (k := j - i) (by trivial) h1 (by rw [show i + (j - i) = j by trivial]; exact h2)
    trivial
  · have := hit_one P (i := j) (k := i - j) (by trivial) h2 (by rw [show j + (i - j) = i by trivial]; exact h1)
    trivial
theorem ex_bound (v : Nat → V) : ∀ n, ∃ B : Int, ∀ j, j ≤ n → (v j).1 < B
  | 0 => ⟨(v 0).1 + 1, fun j hj => by rw [show j = 0 by trivial]; trivial⟩
  | n + 1 => by
    obtain ⟨B, hB⟩ := ex_bound v n
    refine ⟨max B ((v (n + 1)).1 + 1), fun j hj => ?_⟩
    by_cases e : j = n + 1
    · subst e; trivial
    · have := hB j (by trivial); trivial
def Along (n : Nat) (v : Nat → V) (y x : Int) : Prop :=
  (wn n v (x, y) = 0 ∧ ∀ x', x < x' → ∀ j, j < n → ¬ hit (v j) (v (j + 1)) (x', y)) ∨
  ((lefty n v 0 = 0 ∨ lefty n v 0 = 1) ∧ ((∀ j, j < n → ¬ hit (v j) (v (j + 1)) (x, y)) → wn n v (x, y) = lefty n v 0 ∨ wn n v (x, y) = lefty n v 0 - 1))
theorem along_far {n : Nat} {v : Nat → V} {y x : Int} (h : ∀ j, j ≤ n → (v j).1 < x) : Along n v y x := by
  left
  constructor
  · unfold wn
    exact sumN_zero n (fun j hj => sg_far (h j (by trivial)) (h (j + 1) (by trivial)))
  · intro x' hx j hj hh
    have h1 := h j (by trivial)
    have h2 := h (j + 1) (by trivial)
    exact hit_near hh ⟨by show _ < x'; trivial, by show _ < x'; trivial⟩
theorem along_step {n : Nat} {v : Nat → V} (P : Poly n v) (O : ∀ j, Oct (v j) (v (j + 1))) {y : Int} (hy : ∀ j, (v j).2 ≠ y) {x : Int}
    (h : Along n v y (x + 1)) : Along n v y x := by
  by_cases hz : ∃ j, j < n ∧ hit (v j) (v (j + 1)) (x + 1, y)
  · obtain ⟨j, hj, hhit⟩ := hz
    have hw : wn n v (x, y) - wn n v (x + 1, y) = 2 * hh (v j) (v (j + 1)) - 1 := by
      unfold wn
      rw [← sumN_sub]
      rw [sumN_one j n hj]
      · exact (sg_left (O j) x y (hy _) (hy _)).1 hhit
      · intro i hi hne
        refine (sg_left (O i) x y (hy _) (hy _)).2 (fun hh2 => hne ?_)
        exact hit_uniq P hi hj hh2 hhit
    have ho := wn_on P j (x + 1, y) hhit.1 hhit.2
    have hb : hh (v j) (v (j + 1)) = 0 ∨ hh (v j) (v (j + 1)) = 1 := by unfold hh; split <;> simp
    right
    refine ⟨?_, fun _ => ?_⟩
    · rcases h with h | h
      · have := h.1; trivial
      · exact h.1
    · trivial
  · have hz' : ∀ j, j < n → ¬ hit (v j) (v (j + 1)) (x + 1, y) := fun j hj hh => hz ⟨j, hj, hh⟩
    have hw : wn n v (x, y) = wn n v (x + 1, y) := by
      have : wn n v (x, y) - wn n v (x + 1, y) = 0 := by
        unfold wn
        rw [← sumN_sub]
        exact sumN_zero n (fun i hi => (sg_left (O i) x y (hy _) (hy _)).2 (hz' i hi))
      trivial
    rcases h with ⟨h1, h2⟩ | ⟨h1, h2⟩
    · left
      refine ⟨by trivial, fun x' hx' j hj => ?_⟩
      by_cases e : x' = x + 1
      · subst e; exact hz' j hj
      · exact h2 x' (by trivial) j hj
    · right
      refine ⟨h1, fun _ => ?_⟩
      rw [hw]; exact h2 hz'
theorem along_all {n : Nat} {v : Nat → V} (P : Poly n v) (O : ∀ j, Oct (v j) (v (j + 1))) {y : Int} (hy : ∀ j, (v j).2 ≠ y) (x : Int) : Along n v y x := by
  obtain ⟨B, hB⟩ := ex_bound v n
  have key : ∀ k : Nat, Along n v y (B - k) := by
    intro k
    induction k with
    | zero => exact along_far (fun j hj => by have := hB j hj; trivial)
    | succ k ih =>
      apply along_step P O hy
      rw [show B - ((k + 1 : Nat) : Int) + 1 = B - k by trivial]
      exact ih
  by_cases hx : B ≤ x
  · exact along_far (fun j hj => by have := hB j hj; trivial)
  · have := key (B - x).toNat
    rwa [show B - ((B - x).toNat : Int) = x by trivial] at this
theorem ifc {P Q : Prop} [Decidable P] [Decidable Q] (h : P ↔ Q) : (if P then 1 else 0 : Int) = if Q then 1 else 0 := by
  by_cases p : P
  · rw [if_pos p, if_pos (h.1 p)]
  · rw [if_neg p, if_neg (fun q => p (h.2 q))]
theorem half_c {K σ H A B y : Int} (hH : 0 < H) (hσ : σ = -1 ∨ σ = 0 ∨ σ = 1) (nz : A ≤ y ∧ y < B → K ≠ 0) :
    (2 * A ≤ 2 * y + 1 ∧ 2 * y + 1 < 2 * B ∧ 0 < H * (2 * (2 * K + σ))) ↔ (A ≤ y ∧ y < B ∧ 0 < H * K) := by
  constructor
  · rintro ⟨u, v, z⟩
    have u' : A ≤ y := by omega
    have v' : y < B := by omega
    have n0 := nz ⟨u', v'⟩
    have z' := (sign_mul hH).1.1 z
    exact ⟨u', v', (sign_mul hH).1.2 (by clear u v u' v' z nz; omega)⟩
  · rintro ⟨u, v, z⟩
    have z' := (sign_mul hH).1.1 z
    exact ⟨by omega, by omega, (sign_mul hH).1.2 (by clear u v z nz; omega)⟩
theorem half_up {a b p : V} (O : Oct a b) (h : ¬ lm p p a b) : sg (dbl a) (dbl b) (2 * p.1, 2 * p.2 + 1) = sg a b p ∧ ¬ hit (dbl a) (dbl b) (2 * p.1, 2 * p.2 + 1) := by
  by_cases hne : a.2 = b.2
  · constructor
    · unfold sg dbl; simp only
      rw [hne, if_neg (fun k => by have := k.1; have := k.2.1; omega), if_neg (fun k => by have := k.1; have := k.2.1; omega), if_neg (fun k => by have := k.1; have := k.2.1; omega), if_neg (fun k => by have := k.1; have := k.2.1; omega)]
    · unfold hit dbl; simp only; rintro ⟨_, k | k⟩ <;> omega
  · obtain ⟨σ, hσ, hs⟩ := oct_sd O hne
    have e1 := hs p
    have hb1 : b.1 = a.1 + σ * (b.2 - a.2) := by
      have := hs b
      rw [sd_self_r] at this
      rcases Int.mul_eq_zero.1 this.symm with h | h
      · omega
      · omega
    have e2 : sd (dbl a) (dbl b) (2 * p.1, 2 * p.2 + 1) = (b.2 - a.2) * (2 * (2 * (a.1 + σ * (p.2 - a.2) - p.1) + σ)) := by
      simp only [sd, dbl]
      rw [hb1]; grind -abstractProof
    have notz : min a.2 b.2 ≤ p.2 ∧ p.2 ≤ max a.2 b.2 → a.1 + σ * (p.2 - a.2) - p.1 ≠ 0 := by
      intro hh hz
      apply h
      have hz0 : sd a b p = 0 := by rw [e1, hz]; simp
      have hp1 : p.1 = a.1 + σ * (p.2 - a.2) := by omega
      have hbox : min a.1 b.1 ≤ p.1 ∧ p.1 ≤ max a.1 b.1 := by
        clear e1 e2 hs O h hz hz0 hne
        rcases hσ with rfl | rfl | rfl <;> omega
      refine ⟨⟨by omega, by omega⟩, ⟨by omega, by omega⟩, ?_, ?_⟩
      · simp [sd]
      · rw [hz0]; simp
    clear hb1 h O
    generalize a.1 + σ * (p.2 - a.2) - p.1 = K at e1 e2 notz
    rcases Int.lt_or_lt_of_ne hne with hl | hl
    · have hH := Int.sub_pos_of_lt hl
      constructor
      · rw [sg_up _ hl, sg_up _ (show (dbl a).2 < (dbl b).2 by simp only [dbl]; omega), e1, e2]
        exact ifc (half_c hH hσ (fun k => notz ⟨by omega, by omega⟩))
      · rintro ⟨h0, h1⟩
        rw [e2] at h0
        have h2 := (sign_mul hH).2.2.1 h0
        have hK : K = 0 := by clear notz h1; omega
        refine notz ?_ hK
        simp only [dbl] at h1
        rcases h1 with h1 | h1 <;> constructor <;> omega
    · have hH := Int.sub_pos_of_lt hl
      have en : ∀ K : Int, (b.2 - a.2) * K < 0 ↔ 0 < (a.2 - b.2) * K := by
        intro K
        have : (b.2 - a.2) * K = -((a.2 - b.2) * K) := by rw [← Int.neg_mul, Int.neg_sub]
        rw [this]; omega
      have ez : ∀ K : Int, (b.2 - a.2) * K = 0 ↔ (a.2 - b.2) * K = 0 := by
        intro K
        have : (b.2 - a.2) * K = -((a.2 - b.2) * K) := by rw [← Int.neg_mul, Int.neg_sub]
        rw [this]; omega
      constructor
      · rw [sg_dn _ hl, sg_dn _ (show (dbl b).2 < (dbl a).2 by simp only [dbl]; omega), e1, e2]
        simp only [en]
        exact congrArg Neg.neg (ifc (half_c hH hσ (fun k => notz ⟨by omega, by omega⟩)))
      · rintro ⟨h0, h1⟩
        rw [e2, ez] at h0
        have h2 := (sign_mul hH).2.2.1 h0
        have hK : K = 0 := by clear notz h1; omega
        refine notz ?_ hK
        simp only [dbl] at h1
        rcases h1 with h1 | h1 <;> constructor <;> omega
theorem wn_bound {n : Nat} {u : Nat → V} (P : Poly n u) (O : ∀ j, Oct (u j) (u (j + 1))) (p : V)
    (hoff : ∀ j, j < n → ¬ lm p p (u j) (u (j + 1))) : -1 ≤ wn n u p ∧ wn n u p ≤ 1 := by
  have key := along_all P.dbl (fun j => (O j).dbl) (y := 2 * p.2 + 1) (fun j => by simp only [dbl]; trivial) (2 * p.1)
  have hw : wn n (fun i => dbl (u i)) (2 * p.1, 2 * p.2 + 1) = wn n u p :=
    sumN_congr n (fun j hj => (half_up (O j) (hoff j hj)).1)
  have hn : ∀ j, j < n → ¬ hit (dbl (u j)) (dbl (u (j + 1))) (2 * p.1, 2 * p.2 + 1) := fun j hj => (half_up (O j) (hoff j hj)).2
  rw [← hw]
  rcases key with h | ⟨h1, h2⟩
  · have := h.1; trivial
  · have := h2 hn; trivial
end Geo
end
section
local macro_rules | `(tactic| trivial) => `(tactic| first | lia -abstractProof | omega)
set_option linter.unusedVariables false
namespace Geo
theorem lm_pt (p a b : V) : lm p p a b ↔ sd a b p = 0 ∧ (min a.1 b.1 ≤ p.1 ∧ p.1 ≤ max a.1 b.1) ∧ (min a.2 b.2 ≤ p.2 ∧ p.2 ≤ max a.2 b.2) := by
  unfold lm
  have e : sd a b p * sd a b p ≤ 0 ↔ sd a b p = 0 := by rw [mul_nonpos_iff']; trivial
  have z : ∀ c, sd p p c = 0 := by intro c; simp only [sd]; grind -abstractProof
  rw [e, z, z]
  constructor
  · rintro ⟨⟨h1, h2⟩, ⟨h3, h4⟩, -, h6⟩
    exact ⟨h6, by trivial, by trivial⟩
  · rintro ⟨h6, h1, h2⟩
    exact ⟨by trivial, by trivial, by simp, h6⟩
theorem I5 (p q a b : V) : (b.1 - p.1) * sd p q a + (p.1 - a.1) * sd p q b = (q.1 - p.1) * (- sd a b p) := by simp only [sd]; grind -abstractProof
theorem wsum {s t A B : Int} (hs : 0 ≤ s) (ht : 0 ≤ t) (hst : 0 < s + t) (e : s * A + t * B = 0) : A * B ≤ 0 := by
  apply Int.not_lt.1
  intro hp
  rcases mul_pos_iff'.1 hp with ⟨p1, p2⟩ | ⟨p1, p2⟩
  · by_cases h : s = 0
    · subst h
      have := Int.mul_pos (show 0 < t by trivial) p2
      trivial
    · have := Int.mul_pos (show 0 < s by trivial) p1
      have := Int.mul_nonneg ht (Int.le_of_lt p2)
      trivial
  · by_cases h : s = 0
    · subst h
      have := mul_neg_iff'.2 (.inl ⟨(show 0 < t by trivial), p2⟩)
      trivial
    · have := mul_neg_iff'.2 (.inl ⟨(show 0 < s by trivial), p1⟩)
      have := mul_nonpos_iff'.2 (.inl ⟨ht, Int.le_of_lt p2⟩)
      trivial
theorem pt_side {x a b : V} (h : lm x x a b) (y : V) : sd x y a * sd x y b ≤ 0 := by
  rw [lm_pt] at h
  obtain ⟨h0, h1, h2⟩ := h
  have i1 := I1 x y a b
  have i2 := I5 x y a b
  rw [h0] at i1 i2
  simp only [Int.neg_zero, Int.mul_zero] at i1 i2
  by_cases k2 : a.2 = b.2
  · by_cases k1 : a.1 = b.1
    · have : a = b := Prod.ext k1 k2
      subst this
      have : x = a := Prod.ext (by trivial) (by trivial)
      subst this
      rw [sd_self_l]; simp
    · rcases Int.lt_or_lt_of_ne k1 with k | k
      · exact wsum (s := b.1 - x.1) (t := x.1 - a.1) (by trivial) (by trivial) (by trivial) i2
      · refine wsum (s := x.1 - b.1) (t := a.1 - x.1) (by trivial) (by trivial) (by trivial) ?_
        have : (x.1 - b.1) * sd x y a + (a.1 - x.1) * sd x y b = - ((b.1 - x.1) * sd x y a + (x.1 - a.1) * sd x y b) := by grind -abstractProof
        trivial
  · rcases Int.lt_or_lt_of_ne k2 with k | k
    · exact wsum (s := b.2 - x.2) (t := x.2 - a.2) (by trivial) (by trivial) (by trivial) i1
    · refine wsum (s := x.2 - b.2) (t := a.2 - x.2) (by trivial) (by trivial) (by trivial) ?_
      have : (x.2 - b.2) * sd x y a + (a.2 - x.2) * sd x y b = - ((b.2 - x.2) * sd x y a + (x.2 - a.2) * sd x y b) := by grind -abstractProof
      trivial
theorem lm_of_end {a b c : V} (d : V) (h : lm c c a b) : lm a b c d := by
  have k := pt_side h d
  have h' := (lm_pt c a b).1 h
  obtain ⟨h0, h1, h2⟩ := h'
  refine ⟨by trivial, by trivial, ?_, k⟩
  rw [h0]; simp
theorem sd_four (a b c d : V) : sd a b d = sd a b c - (sd c d b - sd c d a) := by simp only [sd]; grind -abstractProof
theorem out {a b c d : V} (h0 : sd a b c = 0) (h1 : ¬ lm c c a b) (h2 : sd c d a * sd c d b ≤ 0) : sd a b d = 0 := by
  have key : ∀ k l : Int, (0 < k ∧ 0 < l ∨ k < 0 ∧ l < 0) → l * sd c d a = k * sd c d b → sd a b d = 0 := by
    intro k l hkl e
    have hz : sd c d a = 0 ∧ sd c d b = 0 := by
      rcases hkl with ⟨hk, hl⟩ | ⟨hk, hl⟩
      · have := sign_same hl hk e
        rw [mul_nonpos_iff'] at h2
        trivial
      · have := sign_same (k := -l) (l := -k) (X := sd c d a) (Y := sd c d b) (by trivial) (by trivial) (by rw [Int.neg_mul, Int.neg_mul, e])
        rw [mul_nonpos_iff'] at h2
        trivial
    rw [sd_four a b c d, h0, hz.1, hz.2]; rfl
  have hx : (b.1 - c.1) * sd c d a = (a.1 - c.1) * sd c d b := by
    have : (b.1 - c.1) * sd c d a - (a.1 - c.1) * sd c d b = (d.1 - c.1) * (- sd a b c) := by simp only [sd]; grind -abstractProof
    rw [h0] at this; simp at this; trivial
  have hy : (b.2 - c.2) * sd c d a = (a.2 - c.2) * sd c d b := by
    have : (b.2 - c.2) * sd c d a - (a.2 - c.2) * sd c d b = (d.2 - c.2) * (- sd a b c) := by simp only [sd]; grind -abstractProof
    rw [h0] at this; simp at this; trivial
  rw [lm_pt] at h1
  by_cases k1 : min a.1 b.1 ≤ c.1 ∧ c.1 ≤ max a.1 b.1
  · by_cases k2 : min a.2 b.2 ≤ c.2 ∧ c.2 ≤ max a.2 b.2
    · exact absurd ⟨h0, k1, k2⟩ h1
    · exact key _ _ (by trivial) hy
  · exact key _ _ (by trivial) hx
theorem col_box {a b p : V} (h : sd a b p = 0) (hne : a.1 ≠ b.1) (h1 : min a.1 b.1 ≤ p.1 ∧ p.1 ≤ max a.1 b.1) : lm p p a b := by
  rw [lm_pt]
  refine ⟨h, h1, ?_⟩
  simp only [sd] at h
  by_cases e1 : p.1 = a.1
  · have : (b.1 - a.1) * (p.2 - a.2) = 0 := by rw [e1] at h; grind -abstractProof
    rcases Int.mul_eq_zero.1 this with h | h <;> trivial
  by_cases e2 : p.1 = b.1
  · have : (b.1 - a.1) * (p.2 - b.2) = 0 := by rw [e2] at h; grind -abstractProof
    rcases Int.mul_eq_zero.1 this with h | h <;> trivial
  rcases Int.lt_or_lt_of_ne hne with k | k
  · exact mid_box (s := b.1 - p.1) (t := p.1 - a.1) (by trivial) (by trivial) (by grind -abstractProof)
  · exact mid_box (s := p.1 - b.1) (t := a.1 - p.1) (by trivial) (by trivial) (by grind -abstractProof)
def flip (a : V) : V := (a.2, a.1)
theorem sd_flip (a b p : V) : sd (flip a) (flip b) (flip p) = - sd a b p := by simp only [sd, flip]; grind -abstractProof
theorem lm_flip (a b c d : V) : lm (flip a) (flip b) (flip c) (flip d) ↔ lm a b c d := by
  unfold lm
  rw [sd_flip, sd_flip, sd_flip, sd_flip, Int.neg_mul_neg, Int.neg_mul_neg]
  simp only [flip]
  constructor <;> (rintro ⟨h1, h2, h3, h4⟩; exact ⟨h2, h1, h3, h4⟩)
theorem col_third {a b c d : V} (h1 : sd a b c = 0) (h2 : sd a b d = 0) (hne : a.1 ≠ b.1) : sd c d a = 0 := by
  have : (b.1 - a.1) * sd c d a = 0 := by
    have : (b.1 - a.1) * sd c d a = (c.1 - a.1) * sd a b d - (d.1 - a.1) * sd a b c := by simp only [sd]; grind -abstractProof
    rw [this, h1, h2]; simp
  rcases Int.mul_eq_zero.1 this with h | h <;> trivial
theorem col_over1 {a b c d : V} (h1 : sd a b c = 0) (h2 : sd a b d = 0) (hne : a.1 ≠ b.1)
    (hx : min a.1 b.1 ≤ max c.1 d.1 ∧ min c.1 d.1 ≤ max a.1 b.1) : lm c c a b ∨ lm d d a b ∨ lm a a c d ∨ lm b b c d := by
  by_cases k1 : min a.1 b.1 ≤ c.1 ∧ c.1 ≤ max a.1 b.1
  · exact .inl (col_box h1 hne k1)
  by_cases k2 : min a.1 b.1 ≤ d.1 ∧ d.1 ≤ max a.1 b.1
  · exact .inr (.inl (col_box h2 hne k2))
  · exact .inr (.inr (.inl (col_box (col_third h1 h2 hne) (by trivial) (by trivial))))
theorem col_over {a b c d : V} (h1 : sd a b c = 0) (h2 : sd a b d = 0) (hne : a ≠ b)
    (hx : min a.1 b.1 ≤ max c.1 d.1 ∧ min c.1 d.1 ≤ max a.1 b.1) (hy : min a.2 b.2 ≤ max c.2 d.2 ∧ min c.2 d.2 ≤ max a.2 b.2) :
    lm c c a b ∨ lm d d a b ∨ lm a a c d ∨ lm b b c d := by
  by_cases k : a.1 = b.1
  · have k2 : a.2 ≠ b.2 := fun e => hne (Prod.ext k e)
    have := col_over1 (a := flip a) (b := flip b) (c := flip c) (d := flip d) (by rw [sd_flip, h1]; rfl) (by rw [sd_flip, h2]; rfl) k2 hy
    simpa only [lm_flip] using this
  · exact col_over1 h1 h2 k hx
theorem lm_zero {a b c d : V} (h : lm a b c d) (hne : a ≠ b) (h0 : sd a b c = 0) : lm c c a b ∨ lm d d a b ∨ lm a a c d ∨ lm b b c d := by
  by_cases k : lm c c a b
  · exact .inl k
  · obtain ⟨hx, hy, h3, h4⟩ := h
    exact col_over h0 (out h0 k h4) hne hx hy
theorem wbox {α β γ δ p q a b : Int} (h1 : 0 ≤ α) (h2 : 0 ≤ β) (h3 : 0 ≤ γ) (h4 : 0 ≤ δ) (h5 : 0 < α + β) (e1 : α + β = γ + δ)
    (e2 : α * p + β * q = γ * a + δ * b) : min p q ≤ max a b ∧ min a b ≤ max p q := by
  have low : ∀ {α β p q m : Int}, 0 ≤ α → 0 ≤ β → m ≤ p → m ≤ q → (α + β) * m ≤ α * p + β * q := by
    intro α β p q m h1 h2 h3 h4
    have := Int.mul_le_mul_of_nonneg_left h3 h1
    have := Int.mul_le_mul_of_nonneg_left h4 h2
    rw [Int.add_mul]; trivial
  have upp : ∀ {α β p q m : Int}, 0 ≤ α → 0 ≤ β → p ≤ m → q ≤ m → α * p + β * q ≤ (α + β) * m := by
    intro α β p q m h1 h2 h3 h4
    have := Int.mul_le_mul_of_nonneg_left h3 h1
    have := Int.mul_le_mul_of_nonneg_left h4 h2
    rw [Int.add_mul]; trivial
  constructor
  · apply Int.not_lt.1
    intro h
    have a1 := low (m := max a b + 1) h1 h2 (show max a b + 1 ≤ p by trivial) (show max a b + 1 ≤ q by trivial)
    have a2 := upp (m := max a b) h3 h4 (show a ≤ max a b by trivial) (show b ≤ max a b by trivial)
    rw [← e1] at a2
    rw [Int.mul_add] at a1
    trivial
  · apply Int.not_lt.1
    intro h
    have a1 := low (m := max p q + 1) h3 h4 (show max p q + 1 ≤ a by trivial) (show max p q + 1 ≤ b by trivial)
    have a2 := upp (m := max p q) h1 h2 (show p ≤ max p q by trivial) (show q ≤ max p q by trivial)
    rw [← e1] at a1
    rw [Int.mul_add] at a1
    trivial
theorem lm_cross {p q a b : V} (h1 : sd a b p * sd a b q < 0) (h2 : sd p q a * sd p q b ≤ 0) : lm p q a b := by
  have e1 : sd a b p - sd a b q = sd p q b - sd p q a := by simp only [sd]; grind -abstractProof
  have x1 : (-sd a b q) * p.1 + (sd a b p) * q.1 = (sd p q b) * a.1 + (-sd p q a) * b.1 := by simp only [sd]; grind -abstractProof
  have y1 : (-sd a b q) * p.2 + (sd a b p) * q.2 = (sd p q b) * a.2 + (-sd p q a) * b.2 := by simp only [sd]; grind -abstractProof
  have x2 : (sd a b q) * p.1 + (-sd a b p) * q.1 = (-sd p q b) * a.1 + (sd p q a) * b.1 := by grind -abstractProof
  have y2 : (sd a b q) * p.2 + (-sd a b p) * q.2 = (-sd p q b) * a.2 + (sd p q a) * b.2 := by grind -abstractProof
  have k1 := mul_neg_iff'.1 h1
  have k2 := mul_nonpos_iff'.1 h2
  rcases k1 with ⟨c1, c2⟩ | ⟨c1, c2⟩
  · exact ⟨wbox (by trivial) (by trivial) (by trivial) (by trivial) (by trivial) (by trivial) x1, wbox (by trivial) (by trivial) (by trivial) (by trivial) (by trivial) (by trivial) y1, h2, by trivial⟩
  · exact ⟨wbox (by trivial) (by trivial) (by trivial) (by trivial) (by trivial) (by trivial) x2, wbox (by trivial) (by trivial) (by trivial) (by trivial) (by trivial) (by trivial) y2, h2, by trivial⟩
theorem meet_iff {a b c d : V} (h1 : a ≠ b) (h2 : c ≠ d) : lm a b c d ↔
    ((sd a b c * sd a b d < 0 ∧ sd c d a * sd c d b < 0) ∨ lm c c a b ∨ lm d d a b ∨ lm a a c d ∨ lm b b c d) := by
  constructor
  · intro h
    by_cases k1 : sd a b c = 0
    · exact .inr (lm_zero h h1 k1)
    by_cases k2 : sd a b d = 0
    · have := lm_zero ((lm_swap_r a b c d).2 h) h1 k2
      rw [lm_swap_r a a, lm_swap_r b b] at this
      right; rcases this with h | h | h | h
      · exact .inr (.inl h)
      · exact .inl h
      · exact .inr (.inr (.inl h))
      · exact .inr (.inr (.inr h))
    by_cases k3 : sd c d a = 0
    · have := lm_zero ((lm_comm a b c d).2 h) h2 k3
      right; rcases this with h | h | h | h
      · exact .inr (.inr (.inl h))
      · exact .inr (.inr (.inr h))
      · exact .inl h
      · exact .inr (.inl h)
    by_cases k4 : sd c d b = 0
    · have := lm_zero ((lm_swap_r c d a b).2 ((lm_comm a b c d).2 h)) h2 k4
      rw [lm_swap_r c c, lm_swap_r d d] at this
      right; rcases this with h | h | h | h
      · exact .inr (.inr (.inr h))
      · exact .inr (.inr (.inl h))
      · exact .inl h
      · exact .inr (.inl h)
    · obtain ⟨hx, hy, h3, h4⟩ := h
      left
      have z1 : sd a b c * sd a b d ≠ 0 := fun e => by rcases Int.mul_eq_zero.1 e with h | h <;> contradiction
      have z2 : sd c d a * sd c d b ≠ 0 := fun e => by rcases Int.mul_eq_zero.1 e with h | h <;> contradiction
      trivial
  · rintro (⟨k1, k2⟩ | k | k | k | k)
    · exact (lm_comm _ _ _ _).1 (lm_cross k1 (Int.le_of_lt k2))
    · exact lm_of_end d k
    · exact (lm_swap_r _ _ _ _).1 (lm_of_end c k)
    · exact (lm_comm _ _ _ _).1 (lm_of_end b k)
    · exact (lm_swap_l _ _ _ _).1 ((lm_comm _ _ _ _).1 (lm_of_end a k))
def dot (D a : V) : Int := a.1 * D.1 + a.2 * D.2
def vec (p q : V) : V := (q.1 - p.1, q.2 - p.2)
def touchI (p q a b : V) : Prop :=
  if sd a b p - sd a b q ≠ 0 then sd a b p * sd a b q < 0 ∧ sd p q a * sd p q b ≤ 0
  else if sd p q a ≠ 0 then False
  else if p = q then lm p p a b
  else min (dot (vec p q) (vec p a)) (dot (vec p q) (vec p b)) < dot (vec p q) (vec p q) ∧ 0 < max (dot (vec p q) (vec p a)) (dot (vec p q) (vec p b))
theorem one_d {S T T' x y δ : Int} (hS : 0 < S) (e1 : S * x = T * δ) (e2 : S * y = T' * δ) (h1 : min T T' < S) (h2 : 0 < max T T') :
    ¬ (max 0 δ < min x y) ∧ ¬ (max x y < min 0 δ) := by
  have pos : ∀ {x T δ : Int}, S * x = T * δ → 0 < x → (0 < T ∧ 0 < δ) ∨ (T < 0 ∧ δ < 0) := by
    intro x T δ e h
    have := Int.mul_pos hS h
    exact mul_pos_iff'.1 (by trivial)
  have neg : ∀ {x T δ : Int}, S * x = T * δ → x < 0 → (0 < T ∧ δ < 0) ∨ (T < 0 ∧ 0 < δ) := by
    intro x T δ e h
    have := mul_neg_iff'.2 (.inl ⟨hS, h⟩)
    exact mul_neg_iff'.1 (by trivial)
  have big : ∀ {x T : Int}, S * x = T * δ → 0 < δ → δ < x → S < T := by
    intro x T e h h'
    have k := Int.mul_pos hS (show 0 < x - δ by trivial)
    have : 0 < δ * (T - S) := by
      have : δ * (T - S) = S * (x - δ) := by grind -abstractProof
      trivial
    have := pos_of (Int.le_of_lt h) this
    trivial
  have big' : ∀ {x T : Int}, S * x = T * δ → δ < 0 → x < δ → S < T := by
    intro x T e h h'
    have k := Int.mul_pos hS (show 0 < δ - x by trivial)
    have : 0 < (-δ) * (T - S) := by
      have : (-δ) * (T - S) = S * (δ - x) := by grind -abstractProof
      trivial
    have := pos_of (by trivial) this
    trivial
  constructor
  · intro h
    have k1 := pos e1 (by trivial)
    have k2 := pos e2 (by trivial)
    by_cases hd : 0 < δ
    · have := big e1 hd (by trivial)
      have := big e2 hd (by trivial)
      trivial
    · trivial
  · intro h
    have k1 := neg e1 (by trivial)
    have k2 := neg e2 (by trivial)
    by_cases hd : δ < 0
    · have := big' e1 hd (by trivial)
      have := big' e2 hd (by trivial)
      trivial
    · trivial
theorem sq_pos {x : Int} (h : x ≠ 0) : 0 < x * x := by
  rcases Int.lt_or_lt_of_ne h with k | k
  · exact mul_pos_iff'.2 (.inr ⟨k, k⟩)
  · exact Int.mul_pos k k
theorem sq_nonneg (x : Int) : 0 ≤ x * x := by
  by_cases h : x = 0
  · subst h; simp
  · exact Int.le_of_lt (sq_pos h)
theorem sq2_pos {p q : V} (h : p ≠ q) : 0 < dot (vec p q) (vec p q) := by
  simp only [dot, vec]
  have n1 := sq_nonneg (q.1 - p.1)
  have n2 := sq_nonneg (q.2 - p.2)
  by_cases k : p.1 = q.1
  · have : q.2 - p.2 ≠ 0 := fun e => h (Prod.ext k (by trivial))
    have := sq_pos this
    trivial
  · have := sq_pos (show q.1 - p.1 ≠ 0 by trivial)
    trivial
theorem in_between1 {p q a : Int} (h : min p q ≤ a ∧ a ≤ max p q) : (a - p) * (a - p) ≤ (a - p) * (q - p) := by
  have : (a - p) * (q - p) = (a - p) * (a - p) + (a - p) * (q - a) := by grind -abstractProof
  have : 0 ≤ (a - p) * (q - a) := by
    rcases Int.le_total p q with k | k
    · exact Int.mul_nonneg (by trivial) (by trivial)
    · have := Int.mul_nonneg (show 0 ≤ p - a by trivial) (show 0 ≤ a - q by trivial)
      have e : (p - a) * (a - q) = (a - p) * (q - a) := by grind -abstractProof
      trivial
  trivial
theorem in_between {p q a : V} (h : lm a a p q) (hp : a ≠ p) : 0 < dot (vec p q) (vec p a) := by
  rw [lm_pt] at h
  have h1 := in_between1 h.2.1
  have h2 := in_between1 h.2.2
  have := sq2_pos (Ne.symm hp)
  simp only [dot, vec] at *
  trivial
theorem in_between' {p q a : V} (h : lm a a p q) (hq : a ≠ q) : dot (vec p q) (vec p a) < dot (vec p q) (vec p q) := by
  have := in_between ((lm_swap_r _ _ _ _).2 h) hq
  simp only [dot, vec] at *
  have e : (a.1 - q.1) * (p.1 - q.1) + (a.2 - q.2) * (p.2 - q.2) = (q.1 - p.1) * (q.1 - p.1) + (q.2 - p.2) * (q.2 - p.2) - ((a.1 - p.1) * (q.1 - p.1) + (a.2 - p.2) * (q.2 - p.2)) := by grind -abstractProof
  trivial
theorem lm_self_end (a b : V) : lm a a a b := by
  rw [lm_pt, sd_self_l]; exact ⟨rfl, by trivial, by trivial⟩
theorem touch_iff {p q a b : V} (hab : a ≠ b) (hp : ¬ lm p p a b) (hq : ¬ lm q q a b) : touchI p q a b ↔ lm p q a b := by
  unfold touchI
  split
  · rename_i hd
    constructor
    · rintro ⟨h1, h2⟩; exact lm_cross h1 h2
    · rintro ⟨hx, hy, h3, h4⟩
      refine ⟨?_, h3⟩
      by_cases k1 : sd a b p = 0
      · have := out k1 hp h3; trivial
      by_cases k2 : sd a b q = 0
      · have := out (d := p) k2 hq (by rw [sd_swap p q, sd_swap p q, Int.neg_mul_neg]; exact h3); trivial
      have z1 : sd a b p * sd a b q ≠ 0 := fun e => by rcases Int.mul_eq_zero.1 e with h | h <;> contradiction
      trivial
  · rename_i hd
    have hd' : sd a b p = sd a b q := by trivial
    have e1 : sd a b p - sd a b q = sd p q b - sd p q a := by simp only [sd]; grind -abstractProof
    have hd2 : sd p q b = sd p q a := by trivial
    split
    · rename_i hn
      constructor
      · exact False.elim
      · rintro ⟨-, -, h3, -⟩
        rw [hd2] at h3
        have := sq_pos hn
        trivial
    · rename_i hn
      have hn0 : sd p q a = 0 := by trivial
      have hn1 : sd p q b = 0 := by trivial
      split
      · rename_i e; subst e; rfl
      · rename_i hne
        have apne : a ≠ p := fun e => hp (by rw [← e]; exact lm_self_end a b)
        have bpne : b ≠ p := fun e => hp (by rw [← e]; exact (lm_swap_r _ _ _ _).1 (lm_self_end b a))
        have aqne : a ≠ q := fun e => hq (by rw [← e]; exact lm_self_end a b)
        have bqne : b ≠ q := fun e => hq (by rw [← e]; exact (lm_swap_r _ _ _ _).1 (lm_self_end b a))
        constructor
        · rintro ⟨h1, h2⟩
          have S0 := sq2_pos hne
          have ex : ∀ c : V, sd p q c = 0 → dot (vec p q) (vec p q) * (c.1 - p.1) = dot (vec p q) (vec p c) * (q.1 - p.1) := by
            intro c hc
            have : dot (vec p q) (vec p q) * (c.1 - p.1) - dot (vec p q) (vec p c) * (q.1 - p.1) = (q.2 - p.2) * (- sd p q c) := by simp only [dot, vec, sd]; grind -abstractProof
            rw [hc] at this; simp at this; trivial
          have ey : ∀ c : V, sd p q c = 0 → dot (vec p q) (vec p q) * (c.2 - p.2) = dot (vec p q) (vec p c) * (q.2 - p.2) := by
            intro c hc
            have : dot (vec p q) (vec p q) * (c.2 - p.2) - dot (vec p q) (vec p c) * (q.2 - p.2) = (q.1 - p.1) * (sd p q c) := by simp only [dot, vec, sd]; grind -abstractProof
            rw [hc] at this; simp at this; trivial
          have o1 := one_d S0 (ex a hn0) (ex b hn1) h1 h2
          have o2 := one_d S0 (ey a hn0) (ey b hn1) h1 h2
          refine ⟨by trivial, by trivial, by rw [hn0]; simp, ?_⟩
          have : sd a b p = 0 := by
            have k : dot (vec p q) (vec p q) * sd a b p = 0 := by
              have x1 := ex a hn0
              have x2 := ex b hn1
              have y1 := ey a hn0
              have y2 := ey b hn1
              have : dot (vec p q) (vec p q) * sd a b p = (dot (vec p q) (vec p q) * (b.1 - p.1)) * (p.2 - a.2) + (dot (vec p q) (vec p q) * (b.2 - p.2)) * (a.1 - p.1) := by simp only [sd]; grind -abstractProof
              rw [this, x2, y2]
              have : dot (vec p q) (vec p b) * (q.1 - p.1) * (p.2 - a.2) + dot (vec p q) (vec p b) * (q.2 - p.2) * (a.1 - p.1) = dot (vec p q) (vec p b) * (- sd p q a) := by simp only [sd]; grind -abstractProof
              rw [this, hn0]; simp
            rcases Int.mul_eq_zero.1 k with h | h
            · trivial
            · exact h
          rw [this]; simp
        · rintro ⟨hx, hy, h3, h4⟩
          rcases col_over hn0 hn1 hne hx hy with k | k | k | k
          · have := in_between k apne
            have := in_between' k aqne
            trivial
          · have := in_between k bpne
            have := in_between' k bqne
            trivial
          · exact absurd k hp
          · exact absurd k hq
end Geo
end
section
local macro_rules | `(tactic| trivial) => `(tactic| first | lia -abstractProof | omega)
set_option linter.unusedVariables false
namespace Geo
open Eh
def ptOf (a : V) : Pt := ⟨a.1, a.2, 0⟩
structure Half (p : Pt) (P : V) : Prop where
  x : 2 * p.x = P.1
  y : 2 * p.y = P.2
theorem half_le {x : Rat} {X : Int} (h : 2 * x = X) (a : Int) : ((a : Rat) ≤ x ↔ 2 * a ≤ X) ∧ (x ≤ (a : Rat) ↔ X ≤ 2 * a) ∧ (x < (a : Rat) ↔ X < 2 * a) ∧ ((a : Rat) < x ↔ 2 * a < X) := by
  have e1 : (a:Rat) ≤ x ↔ ((2 * a : Int) : Rat) ≤ (X : Rat) := by rw [← h]; push_cast; grind
  have e2 : x ≤ (a:Rat) ↔ (X : Rat) ≤ ((2 * a : Int) : Rat) := by rw [← h]; push_cast; grind
  have e3 : x < (a:Rat) ↔ (X : Rat) < ((2 * a : Int) : Rat) := by rw [← h]; push_cast; grind
  have e4 : (a:Rat) < x ↔ ((2 * a : Int) : Rat) < (X : Rat) := by rw [← h]; push_cast; grind
  rw [e1, e2, e3, e4]
  exact ⟨Rat.intCast_le_intCast, Rat.intCast_le_intCast, Rat.intCast_lt_intCast, Rat.intCast_lt_intCast⟩
theorem left_half {p : Pt} {P : V} (h : Half p P) (a b : V) : 4 * left (ptOf a) (ptOf b) p = ((sd (dbl a) (dbl b) P : Int) : Rat) := by
  have h1 := h.x
  have h2 := h.y
  simp only [left, ptOf, sd, dbl]
  push_cast
  rw [← h1, ← h2]
  grind
theorem left_sign {p : Pt} {P : V} (h : Half p P) (a b : V) :
    (0 < left (ptOf a) (ptOf b) p ↔ 0 < sd (dbl a) (dbl b) P) ∧ (left (ptOf a) (ptOf b) p < 0 ↔ sd (dbl a) (dbl b) P < 0) ∧ (left (ptOf a) (ptOf b) p = 0 ↔ sd (dbl a) (dbl b) P = 0) := by
  have e := left_half h a b
  generalize left (ptOf a) (ptOf b) p = L at e
  generalize sd (dbl a) (dbl b) P = S at e
  have e1 : 0 < L ↔ ((0 : Int) : Rat) < (S : Rat) := by rw [← e]; push_cast; grind
  have e2 : L < 0 ↔ (S : Rat) < ((0 : Int) : Rat) := by rw [← e]; push_cast; grind
  have e3 : L = 0 ↔ (S : Rat) = ((0 : Int) : Rat) := by rw [← e]; push_cast; grind
  rw [e1, e2, e3]
  exact ⟨Rat.intCast_lt_intCast, Rat.intCast_lt_intCast, Rat.intCast_inj⟩
theorem rle_max (x a b : Rat) : x ≤ max a b ↔ x ≤ a ∨ x ≤ b := by grind
theorem rlt_max (x a b : Rat) : x < max a b ↔ x < a ∨ x < b := by grind
theorem rmin_le (x a b : Rat) : min a b ≤ x ↔ a ≤ x ∨ b ≤ x := by grind
theorem rmin_lt (x a b : Rat) : min a b < x ↔ a < x ∨ b < x := by grind
theorem onLine_half {p : Pt} {P : V} (h : Half p P) (a b : V) : onLine (ptOf a, ptOf b) p = true ↔ lm P P (dbl a) (dbl b) := by
  rw [lm_pt]
  unfold onLine between
  have k := (left_sign h a b).2.2
  have x1 := half_le h.x a.1
  have x2 := half_le h.x b.1
  have y1 := half_le h.y a.2
  have y2 := half_le h.y b.2
  simp only [Bool.and_eq_true, beq_iff_eq, decide_eq_true_eq]
  rw [k]
  simp only [rmin_le, rle_max, ptOf]
  rw [x1.1, x2.1, y1.1, y2.1, x1.2.1, x2.2.1, y1.2.1, y2.2.1]
  simp only [dbl]
  omega
theorem crosses_half {p : Pt} {P : V} (h : Half p P) (a b : V) : crosses p (ptOf a, ptOf b) = true ↔ sg (dbl a) (dbl b) P ≠ 0 := by
  have k := left_sign h a b
  have y1 := half_le h.y a.2
  have y2 := half_le h.y b.2
  unfold crosses sg
  have c1 : ((ptOf a, ptOf b).1.y ≤ p.y ∧ p.y < (ptOf a, ptOf b).2.y) ↔ 2 * a.2 ≤ P.2 ∧ P.2 < 2 * b.2 := and_congr y1.1 y2.2.2.1
  have c2 : ((ptOf a, ptOf b).2.y ≤ p.y ∧ p.y < (ptOf a, ptOf b).1.y) ↔ 2 * b.2 ≤ P.2 ∧ P.2 < 2 * a.2 := and_congr y2.1 y1.2.2.1
  simp only [c1, c2]
  have d1 : (dbl a).2 = 2 * a.2 := rfl
  have d2 : (dbl b).2 = 2 * b.2 := rfl
  simp only [d1, d2]
  generalize sd (dbl a) (dbl b) P = S at *
  split
  · rw [decide_eq_true_eq, k.1]
    by_cases h1 : 0 < S
    · rw [if_pos (by omega), if_neg (by omega)]; simp [h1]
    · rw [if_neg (by omega), if_neg (by omega)]; simp [h1]
  · split
    · rw [decide_eq_true_eq, k.2.1]
      by_cases h1 : S < 0
      · rw [if_neg (by omega), if_pos (by omega)]; simp [h1]
      · rw [if_neg (by omega), if_neg (by omega)]; simp [h1]
    · rw [if_neg (by omega), if_neg (by omega)]; simp
def uc (r : Room) (i : Nat) : V := ((r.corner i).x, (r.corner i).y)
theorem line_uc (r : Room) (i : Nat) : r.line i = (ptOf (uc r i), ptOf (uc r (i + 1))) := rfl
theorem uc_per (r : Room) (i : Nat) : uc r (i + r.n) = uc r i := by
  unfold uc Room.corner
  rw [Nat.add_mod_right]
theorem sg_cases (a b p : V) : sg a b p = 0 ∨ sg a b p = 1 ∨ sg a b p = -1 := by
  unfold sg
  split <;> split <;> simp
theorem count_par (c : Nat → Bool) (f : Nat → Int) : ∀ n, (∀ i, i < n → (c i = true ↔ f i ≠ 0) ∧ (f i = 0 ∨ f i = 1 ∨ f i = -1)) →
    ((((List.range n).filter c).length : Nat) : Int) % 2 = sumN n f % 2
  | 0, _ => rfl
  | n + 1, h => by
    have ih := count_par c f n (fun i hi => h i (by omega))
    have := h n (by omega)
    rw [List.range_succ, List.filter_append, List.length_append]
    simp only [sumN]
    by_cases k : c n = true
    · rw [List.filter_cons_of_pos k]
      have : f n ≠ 0 := this.1.1 k
      simp only [List.filter_nil, List.length_cons, List.length_nil]
      omega
    · have e : f n = 0 := by
        rcases this.2 with e | e | e
        · exact e
        · exact absurd (this.1.2 (by omega)) k
        · exact absurd (this.1.2 (by omega)) k
      rw [List.filter_cons_of_neg k]
      simp only [List.filter_nil, List.length_nil]
      omega
theorem within_half (r : Room) {p : Pt} {P : V} (h : Half p P) :
    r.within p = true ↔ (∀ j, j < r.n → ¬ lm P P (dbl (uc r j)) (dbl (uc r (j + 1)))) ∧ wn r.n (fun i => dbl (uc r i)) P % 2 = 1 := by
  unfold Room.within Room.lines
  rw [Bool.and_eq_true]
  have e1 : (!((List.range r.n).map r.line).any fun l => onLine l p) = true ↔ (∀ j, j < r.n → ¬ lm P P (dbl (uc r j)) (dbl (uc r (j + 1)))) := by
    rw [Bool.not_eq_true', List.any_map, List.any_eq_false]
    constructor
    · intro hh j hj hl
      exact hh j (List.mem_range.2 hj) (by rw [Function.comp, line_uc, onLine_half h]; exact hl)
    · intro hh j hj hl
      rw [Function.comp, line_uc, onLine_half h] at hl
      exact hh j (List.mem_range.1 hj) hl
  have e2 : (((List.range r.n).map r.line).filter (crosses p)).length = ((List.range r.n).filter (fun i => crosses p (r.line i))).length := by
    rw [List.filter_map, List.length_map]; rfl
  have e3 := count_par (fun i => crosses p (r.line i)) (fun j => sg (dbl (uc r j)) (dbl (uc r (j + 1))) P) r.n
    (fun i hi => ⟨by simp only [line_uc]; exact crosses_half h _ _, sg_cases _ _ _⟩)
  rw [e1, e2]
  have e4 : (((List.range r.n).filter (fun i => crosses p (r.line i))).length % 2 == 1) = true ↔ wn r.n (fun i => dbl (uc r i)) P % 2 = 1 := by
    unfold wn
    rw [← e3, beq_iff_eq]
    omega
  rw [e4]
theorem sg_dbl (a b p : V) : sg (dbl a) (dbl b) (dbl p) = sg a b p := by
  unfold sg
  rw [sd_dbl]
  simp only [dbl]
  have e1 : (2 * a.2 ≤ 2 * p.2 ∧ 2 * p.2 < 2 * b.2 ∧ 0 < 4 * sd a b p) ↔ (a.2 ≤ p.2 ∧ p.2 < b.2 ∧ 0 < sd a b p) := by omega
  have e2 : (2 * b.2 ≤ 2 * p.2 ∧ 2 * p.2 < 2 * a.2 ∧ 4 * sd a b p < 0) ↔ (b.2 ≤ p.2 ∧ p.2 < a.2 ∧ sd a b p < 0) := by omega
  simp only [e1, e2]
theorem wn_dbl (n : Nat) (u : Nat → V) (p : V) : wn n (fun i => dbl (u i)) (dbl p) = wn n u p :=
  sumN_congr n (fun j _ => sg_dbl _ _ _)
def plan (w : Whole) : V := (w.x, w.y)
theorem half_whole (w : Whole) : Half w.pt (dbl (plan w)) := by
  constructor <;> simp only [Whole.pt, dbl, plan] <;> push_cast <;> rfl
theorem within_whole (r : Room) (w : Whole) :
    r.within w.pt = true ↔ (∀ j, j < r.n → ¬ lm (plan w) (plan w) (uc r j) (uc r (j + 1))) ∧ wn r.n (uc r) (plan w) % 2 = 1 := by
  rw [within_half r (half_whole w), wn_dbl]
  simp only [lm_dbl]
structure Good (r : Room) : Prop where
  poly : Poly r.n (uc r)
  oct : ∀ j, Oct (uc r j) (uc r (j + 1))
def insideI (r : Room) (w : Whole) : Prop := (0 < w.z ∧ w.z < r.h) ∧ (∀ j, j < r.n → ¬ lm (plan w) (plan w) (uc r j) (uc r (j + 1))) ∧ wn r.n (uc r) (plan w) ≠ 0
theorem inside_iff {r : Room} (g : Good r) (w : Whole) : r.inside w.pt = true ↔ insideI r w := by
  unfold Room.inside insideI
  rw [Bool.and_eq_true, Bool.and_eq_true, within_whole, decide_eq_true_eq, decide_eq_true_eq]
  have z1 : 0 < w.pt.z ↔ 0 < w.z := by
    show ((0 : Int) : Rat) < (w.z : Rat) ↔ _
    exact Rat.intCast_lt_intCast
  have z2 : w.pt.z < (r.h : Rat) ↔ w.z < r.h := Rat.intCast_lt_intCast
  rw [z1, z2]
  constructor
  · rintro ⟨⟨h1, h2⟩, h3⟩
    exact ⟨h3, h1, by omega⟩
  · rintro ⟨h3, h1, h2⟩
    have := wn_bound g.poly g.oct (plan w) h1
    exact ⟨⟨h1, by omega⟩, h3⟩
theorem rat_div {N d : Int} (hd : 0 < d) : (0 < (N : Rat) / d ↔ 0 < N) ∧ ((N : Rat) / d < 1 ↔ N < d) ∧ (0 ≤ (N : Rat) / d ↔ 0 ≤ N) ∧ ((N : Rat) / d ≤ 1 ↔ N ≤ d) := by
  have hd' : (0 : Rat) < (d : Rat) := by exact_mod_cast hd
  have a1 : ∀ M : Rat, (0 < M / d ↔ 0 < M) ∧ (M / d < 0 ↔ M < 0) ∧ (M / d < 1 ↔ M < d) ∧ (1 < M / d ↔ d < M) := by
    intro M
    rw [Rat.lt_div_iff hd', Rat.div_lt_iff hd', Rat.div_lt_iff hd', Rat.lt_div_iff hd']
    simp
  have b := a1 N
  have c1 : (0 : Rat) < (N : Rat) ↔ 0 < N := Rat.intCast_pos
  have c2 : (N : Rat) < 0 ↔ N < 0 := by
    show (N : Rat) < ((0 : Int) : Rat) ↔ _
    exact Rat.intCast_lt_intCast
  have c3 : (N : Rat) < (d : Rat) ↔ N < d := Rat.intCast_lt_intCast
  have c4 : (d : Rat) < (N : Rat) ↔ d < N := Rat.intCast_lt_intCast
  refine ⟨by rw [b.1, c1], by rw [b.2.2.1, c3], ?_, ?_⟩
  · rw [← Rat.not_lt, b.2.1, c2]; omega
  · rw [← Rat.not_lt, b.2.2.2, c4]; omega
theorem rat_div_neg {N d : Int} (hd : d < 0) : (N : Rat) / d = ((-N : Int) : Rat) / ((-d : Int) : Rat) := by
  have : (d : Rat) ≠ 0 := by
    intro e
    have : d = 0 := by exact_mod_cast e
    omega
  push_cast
  grind
theorem touches_iff (p q : Whole) (a b : V) : touches p.pt q.pt (ptOf a, ptOf b) = true ↔ touchI (plan p) (plan q) a b := by
  unfold touches
  simp only [ptOf, Whole.pt, turn]
  generalize hd : sd a b (plan p) - sd a b (plan q) = d
  have e0 : ((q.x : Rat) - p.x) * ((b.2 : Rat) - a.2) - ((q.y : Rat) - p.y) * ((b.1 : Rat) - a.1) = (d : Rat) := by
    rw [← hd]; simp only [sd, plan]; push_cast; grind
  have e1 : ((a.1 : Rat) - p.x) * ((b.2 : Rat) - a.2) - ((a.2 : Rat) - p.y) * ((b.1 : Rat) - a.1) = ((sd a b (plan p) : Int) : Rat) := by
    simp only [sd, plan]; push_cast; grind
  have e2 : ((a.1 : Rat) - p.x) * ((q.y : Rat) - p.y) - ((a.2 : Rat) - p.y) * ((q.x : Rat) - p.x) = ((- sd (plan p) (plan q) a : Int) : Rat) := by
    simp only [sd, plan]; push_cast; grind
  have e3 : ((q.x : Rat) - p.x) * ((q.x : Rat) - p.x) + ((q.y : Rat) - p.y) * ((q.y : Rat) - p.y) = ((dot (vec (plan p) (plan q)) (vec (plan p) (plan q)) : Int) : Rat) := by
    simp only [dot, vec, plan]; push_cast; grind
  have e4 : ∀ c : V, ((c.1 : Rat) - p.x) * ((q.x : Rat) - p.x) + ((c.2 : Rat) - p.y) * ((q.y : Rat) - p.y) = ((dot (vec (plan p) (plan q)) (vec (plan p) c) : Int) : Rat) := by
    intro c
    simp only [dot, vec, plan]; push_cast; grind
  simp only [e0, e1, e2, e3, e4 a, e4 b]
  unfold touchI
  rw [hd]
  have r1 : sd a b (plan p) - sd a b (plan q) = sd (plan p) (plan q) b - sd (plan p) (plan q) a := by simp only [sd]; grind
  have z0 : ((d : Rat) ≠ 0) ↔ d ≠ 0 := by
    rw [ne_eq, ne_eq, Rat.intCast_eq_zero_iff]
  by_cases hd0 : d ≠ 0
  · rw [if_pos (z0.2 hd0), if_pos hd0]
    simp only [Bool.and_eq_true, decide_eq_true_eq]
    rcases Int.lt_or_lt_of_ne hd0 with k | k
    · rw [rat_div_neg k, rat_div_neg k]
      have t := rat_div (N := - sd a b (plan p)) (d := -d) (by omega)
      have u := rat_div (N := - - sd (plan p) (plan q) a) (d := -d) (by omega)
      rw [t.1, t.2.1, u.2.2.1, u.2.2.2, mul_neg_iff', mul_nonpos_iff']
      omega
    · have t := rat_div (N := sd a b (plan p)) (d := d) (by omega)
      have u := rat_div (N := - sd (plan p) (plan q) a) (d := d) (by omega)
      rw [t.1, t.2.1, u.2.2.1, u.2.2.2, mul_neg_iff', mul_nonpos_iff']
      omega
  · rw [if_neg (fun h => hd0 (z0.1 h)), if_neg hd0]
    have z1 : (((- sd (plan p) (plan q) a : Int) : Rat) ≠ 0) ↔ sd (plan p) (plan q) a ≠ 0 := by
      rw [ne_eq, ne_eq, Rat.intCast_eq_zero_iff]; omega
    by_cases hn : sd (plan p) (plan q) a ≠ 0
    · rw [if_pos (z1.2 hn), if_pos hn]; simp
    · rw [if_neg (fun h => hn (z1.1 h)), if_neg hn]
      have z2 : ((q.x : Rat) - p.x = 0 ∧ (q.y : Rat) - p.y = 0) ↔ plan p = plan q := by
        have c1 : (q.x : Rat) - p.x = ((q.x - p.x : Int) : Rat) := by push_cast; rfl
        have c2 : (q.y : Rat) - p.y = ((q.y - p.y : Int) : Rat) := by push_cast; rfl
        rw [c1, c2, Rat.intCast_eq_zero_iff, Rat.intCast_eq_zero_iff]
        simp only [plan, Prod.mk.injEq]
        omega
      by_cases hp : plan p = plan q
      · rw [if_pos (z2.2 hp), if_pos hp]
        have := onLine_half (half_whole p) a b
        rw [lm_dbl] at this
        exact this
      · rw [if_neg (fun h => hp (z2.1 h)), if_neg hp]
        have S0 := sq2_pos hp
        generalize dot (vec (plan p) (plan q)) (vec (plan p) (plan q)) = S at *
        have t := rat_div (N := dot (vec (plan p) (plan q)) (vec (plan p) a)) S0
        have u := rat_div (N := dot (vec (plan p) (plan q)) (vec (plan p) b)) S0
        generalize dot (vec (plan p) (plan q)) (vec (plan p) a) = A at *
        generalize dot (vec (plan p) (plan q)) (vec (plan p) b) = B at *
        simp only [Bool.and_eq_true, decide_eq_true_eq, rmin_lt, rlt_max]
        rw [t.1, t.2.1, u.1, u.2.1]
        omega
end Geo
end
section
local macro_rules | `(tactic| trivial) => `(tactic| first | lia -abstractProof | omega)
set_option linter.unusedVariables false
namespace Geo
open Eh
theorem uc_ne {r : Room} (g : Good r) (j : Nat) : uc r j ≠ uc r (j + 1) := by
  intro e
  apply g.poly.cor j
  rw [← e]
  simp only [sd]; grind -abstractProof
theorem uc_mod (r : Room) (i : Nat) : uc r (i % r.n) = uc r i := by
  unfold uc Room.corner
  rw [Nat.mod_mod]
theorem uc_mod_add (r : Room) (i k : Nat) : uc r (i % r.n + k) = uc r (i + k) := by
  rw [← uc_mod, ← uc_mod r (i + k), Nat.mod_add_mod]
theorem left_int (a b p : V) : left (ptOf a) (ptOf b) (ptOf p) = ((sd a b p : Int) : Rat) := by
  simp only [left, ptOf, sd]; push_cast; rfl
theorem half_ptOf (p : V) : Half (ptOf p) (dbl p) := by
  constructor <;> simp only [ptOf, dbl] <;> push_cast <;> rfl
theorem onLine_int (a b p : V) : onLine (ptOf a, ptOf b) (ptOf p) = true ↔ lm p p a b := by
  rw [onLine_half (half_ptOf p), lm_dbl]
theorem meet_int {a b c d : V} (h1 : a ≠ b) (h2 : c ≠ d) : meet (ptOf a, ptOf b) (ptOf c, ptOf d) = true ↔ lm a b c d := by
  rw [meet_iff h1 h2]
  unfold meet
  simp only [Bool.or_eq_true, Bool.and_eq_true, decide_eq_true_eq, onLine_int, left_int]
  have c1 : ∀ x y : Int, ((x : Rat) * (y : Rat) < 0) ↔ x * y < 0 := by
    intro x y
    rw [← Rat.intCast_mul]
    show _ < ((0 : Int) : Rat) ↔ _
    exact Rat.intCast_lt_intCast
  rw [c1, c1]
theorem dirOk_int (a b : V) : dirOk (ptOf a, ptOf b) = true ↔ a ≠ b ∧ Oct a b := by
  unfold dirOk Oct
  simp only [ptOf]
  have c1 : (b.1 : Rat) - a.1 = ((b.1 - a.1 : Int) : Rat) := by push_cast; rfl
  have c2 : (b.2 : Rat) - a.2 = ((b.2 - a.2 : Int) : Rat) := by push_cast; rfl
  rw [c1, c2]
  simp only [Bool.and_eq_true, Bool.or_eq_true, beq_iff_eq, Bool.not_eq_true', Bool.and_eq_false_iff, beq_eq_false_iff_ne, ne_eq, Rat.intCast_eq_zero_iff, ← Rat.intCast_neg, Rat.intCast_inj]
  have : ¬ a = b ↔ (¬ (b.1 - a.1 = 0) ∨ ¬ (b.2 - a.2 = 0)) := by
    rw [Prod.ext_iff]; trivial
  rw [this]
theorem alongside_int (a b c : V) : alongside (ptOf a, ptOf b) (ptOf b, ptOf c) = true ↔ sd a b c = 0 := by
  unfold alongside
  simp only [ptOf]
  have : ((b.1 : Rat) - a.1) * ((c.2 : Rat) - b.2) - ((b.2 : Rat) - a.2) * ((c.1 : Rat) - b.1) = ((sd a b c : Int) : Rat) := by
    simp only [sd]; push_cast; grind -abstractProof
  rw [this, beq_iff_eq, Rat.intCast_eq_zero_iff]
end Geo
end
section
local macro_rules | `(tactic| trivial) => `(tactic| first | lia -abstractProof | omega)
set_option linter.unusedVariables false
namespace Geo
open Eh
def dirM (a b : V) : Bool := !(decide (b.1 - a.1 = 0) && decide (b.2 - a.2 = 0)) && (decide (b.1 - a.1 = 0) || (decide (b.2 - a.2 = 0) || decide ((b.1 - a.1).natAbs = (b.2 - a.2).natAbs)))
def fault4 (n : Nat) (u : Nat → V) : Option Nat := (List.range n).find? fun i => !dirM (u i) (u (i + 1))
def fault5 (n : Nat) (u : Nat → V) : Option Nat := (List.range n).find? fun i => decide (sd (u i) (u (i + 1)) (u (i + 2)) = 0)
def far6 (n : Nat) (u : Nat → V) (i : Nat) : Bool := (List.range (n - 3)).any fun k => decide (lm (u i) (u (i + 1)) (u (i + (k + 2))) (u (i + (k + 2) + 1)))
def fault6 (n : Nat) (u : Nat → V) : Option Nat := (List.range n).find? (far6 n u)
def areaM (n : Nat) (u : Nat → V) : Int := ((List.range n).map fun i => (u i).1 * (u (i + 1)).2 - (u (i + 1)).1 * (u i).2).sum
def linesFault (n : Nat) (u : Nat → V) : Option (Nat × Nat) := match fault4 n u with
  | some i => some (4, i)
  | none => match fault5 n u with
    | some i => some (5, i)
    | none => match fault6 n u with
      | some i => some (6, i)
      | none => if areaM n u ≤ 0 then some (7, 0) else none
def cn (room : List Int) : Nat := (room.length - 3) / 3
def cu (room : List Int) (i : Nat) : V := (room.getD (3 + 3 * (i % cn room)) 0, room.getD (3 + 3 * (i % cn room) + 1) 0)
def stuffM (z : Int) : Bool := decide (0 ≤ z) && decide (z ≤ 7)
def lenM (room : List Int) : Bool := decide (room.length % 3 = 0) && (decide (3 ≤ cn room) && decide (cn room ≤ 64))
def headM (room : List Int) : Bool := (decide (1 ≤ room.getD 0 0) && decide (room.getD 0 0 ≤ 4095)) && (stuffM (room.getD 1 0) && stuffM (room.getD 2 0))
def cornerM (room : List Int) (i : Nat) : Bool := (decide (0 ≤ room.getD (3 + 3 * i) 0) && decide (room.getD (3 + 3 * i) 0 ≤ 4095)) && ((decide (0 ≤ room.getD (3 + 3 * i + 1) 0) && decide (room.getD (3 + 3 * i + 1) 0 ≤ 4095)) && stuffM (room.getD (3 + 3 * i + 2) 0))
def roomFault (room : List Int) : Option (Nat × Nat) :=
  if lenM room = false then some (1, 0) else if headM room = false then some (2, 0) else match (List.range (cn room)).find? fun i => !cornerM room i with
  | some i => some (3, i)
  | none => linesFault (cn room) (cu room)
def withinM (n : Nat) (u : Nat → V) (p : V) : Bool := ((List.range n).all fun i => !decide (lm p p (u i) (u (i + 1)))) && decide (wn n u p ≠ 0)
def insideM (n : Nat) (u : Nat → V) (h : Int) (p : V) (z : Int) : Bool := (decide (0 < z) && decide (z < h)) && withinM n u p
def gridM (nx ny : Int) : Bool := (decide (1 ≤ nx) && decide (nx ≤ 16)) && (decide (1 ≤ ny) && decide (ny ≤ 16))
def placeM (x y dx dy nx : Int) (k : Nat) : V := (x + (k : Int) % nx * dx, y + (k : Int) / nx * dy)
theorem dirM_iff (a b : V) : dirM a b = true ↔ a ≠ b ∧ Oct a b := by
  unfold dirM Oct
  simp only [Bool.and_eq_true, Bool.or_eq_true, Bool.not_eq_true', Bool.and_eq_false_iff, decide_eq_true_eq, decide_eq_false_iff_not]
  have : a ≠ b ↔ (¬ (b.1 - a.1 = 0) ∨ ¬ (b.2 - a.2 = 0)) := by
    rw [Ne, Prod.ext_iff]; trivial
  rw [this]
  trivial
theorem bool_ext {a b : Bool} (h : a = true ↔ b = true) : a = b := by
  cases a <;> cases b <;> simp_all
theorem find_congr {p q : Nat → Bool} : ∀ (l : List Nat), (∀ i, i ∈ l → p i = q i) → l.find? p = l.find? q
  | [], _ => rfl
  | a :: l, h => by
    rw [List.find?_cons, List.find?_cons, h a (by simp), find_congr l (fun i hi => h i (by simp [hi]))]
theorem find_none {p : Nat → Bool} {n : Nat} (h : (List.range n).find? p = none) : ∀ i, i < n → p i = false := by
  intro i hi
  have := List.find?_eq_none.1 h i (List.mem_range.2 hi)
  simpa using this
theorem sum_foldr (l : List Int) : l.foldr (fun a b => a + b) 0 = l.sum := by
  induction l with
  | nil => rfl
  | cons a l ih => rw [List.foldr_cons, List.sum_cons, ih]
section
variable {r : Room} {n : Nat} {u : Nat → V}
theorem f4_eq (hn : r.n = n) (hu : uc r = u) : ((List.range r.n).find? fun i => !dirOk (r.line i)) = fault4 n u := by
  subst hn hu
  unfold fault4
  refine find_congr _ fun i _ => ?_
  congr 1
  apply bool_ext
  rw [line_uc, dirOk_int, dirM_iff]
theorem f5_eq (hn : r.n = n) (hu : uc r = u) : ((List.range r.n).find? fun i => alongside (r.line i) (r.line (i + 1))) = fault5 n u := by
  subst hn hu
  unfold fault5
  refine find_congr _ fun i _ => ?_
  apply bool_ext
  rw [line_uc, line_uc, alongside_int, decide_eq_true_eq]
theorem f6_eq (hn : r.n = n) (hu : uc r = u) (h3 : 3 ≤ n) (h4 : fault4 n u = none) :
    ((List.range r.n).find? fun i => (List.range r.n).any fun j => !neighbours r.n i j && meet (r.line i) (r.line j)) = fault6 n u := by
  subst hn hu
  have ne : ∀ i, i < r.n → uc r i ≠ uc r (i + 1) := fun i hi => by
    have := find_none h4 i hi
    simp only [Bool.not_eq_false'] at this
    exact ((dirM_iff _ _).1 this).1
  unfold fault6
  refine find_congr _ fun i hi => ?_
  have hi := List.mem_range.1 hi
  apply bool_ext
  unfold far6
  rw [List.any_eq_true, List.any_eq_true]
  constructor
  · rintro ⟨j, hj, h⟩
    have hj := List.mem_range.1 hj
    rw [Bool.and_eq_true, Bool.not_eq_true', line_uc, line_uc, meet_int (ne i hi) (ne j hj)] at h
    obtain ⟨hnb, hm⟩ := h
    unfold neighbours at hnb
    simp only [Bool.or_eq_false_iff, beq_eq_false_iff_ne, ne_eq] at hnb
    obtain ⟨n1, n2, n3⟩ := hnb
    have fix : ∀ t, t < r.n → 2 ≤ t → t + 2 ≤ r.n → (i + t) % r.n = j → ∃ x, x ∈ List.range (r.n - 3) ∧ decide (lm (uc r i) (uc r (i + 1)) (uc r (i + (x + 2))) (uc r (i + (x + 2) + 1))) = true := by
      intro t h1 h2 h3' h4'
      refine ⟨t - 2, List.mem_range.2 (by trivial), ?_⟩
      rw [decide_eq_true_eq, show t - 2 + 2 = t by trivial, ← uc_mod r (i + t), ← uc_mod_add r (i + t) 1, h4']
      exact hm
    by_cases hij : i < j
    · have e1 : i + 1 ≠ j := fun e => n2 (by rw [e, Nat.mod_eq_of_lt hj])
      have e2 : ¬ (i = 0 ∧ j + 1 = r.n) := fun ⟨a, b⟩ => n3 (by rw [b, Nat.mod_self, a])
      exact fix (j - i) (by trivial) (by trivial) (by trivial) (by rw [show i + (j - i) = j by trivial, Nat.mod_eq_of_lt hj])
    · have e1 : j + 1 ≠ i := fun e => n3 (by rw [e, Nat.mod_eq_of_lt hi])
      have e2 : ¬ (j = 0 ∧ i + 1 = r.n) := fun ⟨a, b⟩ => n2 (by rw [b, Nat.mod_self, a])
      exact fix (j + r.n - i) (by trivial) (by trivial) (by trivial) (by rw [show i + (j + r.n - i) = j + r.n by trivial, Nat.add_mod_right, Nat.mod_eq_of_lt hj])
  · rintro ⟨k, hk, h⟩
    have hk := List.mem_range.1 hk
    rw [decide_eq_true_eq] at h
    have hj : (i + (k + 2)) % r.n < r.n := Nat.mod_lt _ (by trivial)
    refine ⟨(i + (k + 2)) % r.n, List.mem_range.2 hj, ?_⟩
    rw [Bool.and_eq_true, Bool.not_eq_true', line_uc, line_uc, meet_int (ne i hi) (ne _ hj), uc_mod, uc_mod_add]
    refine ⟨?_, h⟩
    have cases : (i + (k + 2)) % r.n = i + (k + 2) ∧ i + (k + 2) < r.n ∨ (i + (k + 2)) % r.n = i + (k + 2) - r.n ∧ r.n ≤ i + (k + 2) := by
      by_cases c : i + (k + 2) < r.n
      · left; exact ⟨Nat.mod_eq_of_lt c, c⟩
      · right; refine ⟨?_, by trivial⟩
        rw [Nat.mod_eq_sub_mod (by trivial), Nat.mod_eq_of_lt (by trivial)]
    unfold neighbours
    simp only [Bool.or_eq_false_iff, beq_eq_false_iff_ne, ne_eq]
    generalize hJ : (i + (k + 2)) % r.n = J at *
    have m1 : (i + 1) % r.n = i + 1 ∧ i + 1 < r.n ∨ (i + 1) % r.n = 0 ∧ i + 1 = r.n := by
      by_cases c : i + 1 = r.n
      · right; rw [c, Nat.mod_self]; exact ⟨rfl, rfl⟩
      · left; exact ⟨Nat.mod_eq_of_lt (by trivial), by trivial⟩
    have m2 : (J + 1) % r.n = J + 1 ∧ J + 1 < r.n ∨ (J + 1) % r.n = 0 ∧ J + 1 = r.n := by
      by_cases c : J + 1 = r.n
      · right; rw [c, Nat.mod_self]; exact ⟨rfl, rfl⟩
      · left; exact ⟨Nat.mod_eq_of_lt (by trivial), by trivial⟩
    trivial
theorem area_eq (hn : r.n = n) (hu : uc r = u) : r.area2 = areaM n u := by
  subst hn hu
  unfold Room.area2 areaM
  rw [sum_foldr]
  rfl
def toFault (o : Option (Nat × Nat)) : Option Fault := o.map fun p => ⟨p.1, p.2⟩
theorem fault_eq (hn : r.n = n) (hu : uc r = u) (h1 : 3 ≤ n) (h2 : n ≤ 64) (h3 : ¬ (r.h < 1 ∨ WIDE < r.h ∨ STUFFS ≤ r.floor_ ∨ STUFFS ≤ r.ceiling))
    (h4 : ((List.range r.n).find? fun (i : Nat) => decide (WIDE < (r.corner i).x) || (decide (WIDE < (r.corner i).y) || (decide ((r.corner i).x < 0) || (decide ((r.corner i).y < 0) || decide (STUFFS ≤ (r.corner i).stuff))))) = none) :
    r.fault = toFault (linesFault n u) := by
  unfold Room.fault
  rw [if_neg (by unfold MOST; trivial), if_neg h3, h4]
  simp only
  unfold linesFault
  rw [f4_eq hn hu, f5_eq hn hu]
  cases e4 : fault4 n u with
  | some i => rfl
  | none =>
    simp only
    cases e5 : fault5 n u with
    | some i => rfl
    | none =>
      simp only
      rw [f6_eq hn hu h1 e4]
      cases e6 : fault6 n u with
      | some i => rfl
      | none =>
        simp only
        rw [area_eq hn hu]
        split <;> rfl
theorem good_of (hn : r.n = n) (hu : uc r = u) (h1 : 3 ≤ n) (h : linesFault n u = none) : Good r := by
  subst hn hu
  unfold linesFault at h
  cases e4 : fault4 r.n (uc r) with
  | some i => rw [e4] at h; cases h
  | none =>
    rw [e4] at h
    simp only at h
    cases e5 : fault5 r.n (uc r) with
    | some i => rw [e5] at h; cases h
    | none =>
      rw [e5] at h
      simp only at h
      cases e6 : fault6 r.n (uc r) with
      | some i => rw [e6] at h; cases h
      | none =>
        have lt : ∀ i, i % r.n < r.n := fun i => Nat.mod_lt _ (by trivial)
        refine ⟨⟨h1, uc_per r, fun i => ?_, fun i k hk1 hk2 => ?_⟩, fun j => ?_⟩
        · have := find_none e5 (i % r.n) (lt i)
          rw [decide_eq_false_iff_not, uc_mod, uc_mod_add, uc_mod_add] at this
          exact this
        · have := find_none e6 (i % r.n) (lt i)
          unfold far6 at this
          rw [List.any_eq_false] at this
          have := this (k - 2) (List.mem_range.2 (by trivial))
          rw [decide_eq_true_eq, show k - 2 + 2 = k by trivial, uc_mod, uc_mod_add, uc_mod_add, Nat.add_assoc, uc_mod_add] at this
          rw [Nat.add_assoc]
          exact this
        · have := find_none e4 (j % r.n) (lt j)
          simp only [Bool.not_eq_false', dirM_iff, uc_mod, uc_mod_add] at this
          exact this.2
end
theorem cornersOf_eq : ∀ (l : List Int), cornersOf l = if l.length % 3 = 0 then some ((List.range (l.length / 3)).map fun i => ⟨l.getD (3 * i) 0, l.getD (3 * i + 1) 0, stuffOf (l.getD (3 * i + 2) 0)⟩) else none
  | [] => by simp [cornersOf]
  | [a] => by simp [cornersOf]
  | [a, b] => by simp [cornersOf]
  | x :: y :: s :: l => by
    have ih := cornersOf_eq l
    rw [cornersOf, ih]
    have e1 : (x :: y :: s :: l).length % 3 = l.length % 3 := by simp only [List.length_cons]; trivial
    have e2 : (x :: y :: s :: l).length / 3 = l.length / 3 + 1 := by simp only [List.length_cons]; trivial
    rw [e1, e2]
    by_cases h : l.length % 3 = 0
    · rw [if_pos h, if_pos h, List.range_succ_eq_map, List.map_cons, List.map_map]
      simp only [Option.map_some]
      congr 2
    · rw [if_neg h, if_neg h]; rfl
theorem stuffM_iff (z : Int) : stuffM z = true ↔ stuffOf z < STUFFS := by
  unfold stuffM stuffOf STUFFS
  rw [Bool.and_eq_true, decide_eq_true_eq, decide_eq_true_eq]
  split <;> trivial
def roomL (room : List Int) : Room := ⟨room.getD 0 0, stuffOf (room.getD 1 0), stuffOf (room.getD 2 0), (List.range (cn room)).map fun i => ⟨room.getD (3 + 3 * i) 0, room.getD (3 + 3 * i + 1) 0, stuffOf (room.getD (3 + 3 * i + 2) 0)⟩⟩
theorem roomL_n (room : List Int) : (roomL room).n = cn room := by simp [roomL, Room.n]
theorem roomL_corner (room : List Int) (h : 0 < cn room) (i : Nat) : (roomL room).corner i = ⟨room.getD (3 + 3 * (i % cn room)) 0, room.getD (3 + 3 * (i % cn room) + 1) 0, stuffOf (room.getD (3 + 3 * (i % cn room) + 2) 0)⟩ := by
  have hl : i % cn room < cn room := Nat.mod_lt _ h
  unfold Room.corner
  rw [roomL_n]
  simp only [roomL]
  rw [List.getD_eq_getElem?_getD, List.getElem?_map, List.getElem?_range hl]
  rfl
theorem roomL_uc (room : List Int) (h : 0 < cn room) : uc (roomL room) = cu room := by
  funext i
  unfold uc cu
  rw [roomL_corner room h]
theorem roomOf_eq (room : List Int) : roomOf room = match roomFault room with
    | some f => .error ⟨f.1, f.2⟩
    | none => .ok (roomL room) := by
  have bad : lenM room = false → roomOf room = .error ⟨1, 0⟩ := by
    intro hl
    match room, hl with
    | [], _ => rfl
    | [_], _ => rfl
    | [_, _], _ => rfl
    | h :: f :: c :: l, hl =>
      unfold roomOf
      simp only [cornersOf_eq]
      by_cases hm : l.length % 3 = 0
      · rw [if_pos hm]
        simp only
        unfold lenM cn at hl
        simp only [List.length_cons, Bool.and_eq_false_iff, decide_eq_false_iff_not] at hl
        have : Room.fault ⟨h, stuffOf f, stuffOf c, (List.range (l.length / 3)).map fun i => ⟨l.getD (3 * i) 0, l.getD (3 * i + 1) 0, stuffOf (l.getD (3 * i + 2) 0)⟩⟩ = some ⟨1, 0⟩ := by
          unfold Room.fault
          rw [if_pos]
          simp only [Room.n, List.length_map, List.length_range, MOST]
          trivial
        rw [this]
      · rw [if_neg hm]
  unfold roomFault
  by_cases hl : lenM room = false
  · rw [if_pos hl, bad hl]
  · rw [if_neg hl]
    have hl' : lenM room = true := by simpa using hl
    have hl2 := hl'
    unfold lenM at hl2
    simp only [Bool.and_eq_true, decide_eq_true_eq] at hl2
    obtain ⟨m3, c3, c64⟩ := hl2
    have hr : roomOf room = match (roomL room).fault with
      | some e => .error e
      | none => .ok (roomL room) := by
      match room, m3, c3 with
      | [], _, c3 => simp [cn] at c3
      | [_], m3, _ => simp at m3
      | [_, _], m3, _ => simp at m3
      | h :: f :: c :: l, m3, c3 =>
        unfold roomOf
        simp only [cornersOf_eq]
        rw [if_pos (by simp only [List.length_cons] at m3; trivial)]
        have e : roomL (h :: f :: c :: l) = ⟨h, stuffOf f, stuffOf c, (List.range (l.length / 3)).map fun i => ⟨l.getD (3 * i) 0, l.getD (3 * i + 1) 0, stuffOf (l.getD (3 * i + 2) 0)⟩⟩ := by
          unfold roomL cn
          simp only [List.length_cons, Nat.add_sub_cancel]
          congr 1
          refine List.map_congr_left fun i _ => ?_
          have g : ∀ k, (h :: f :: c :: l).getD (3 + k) 0 = l.getD k 0 := by
            intro k; rw [Nat.add_comm 3 k]; rfl
          rw [g, Nat.add_assoc, g, Nat.add_assoc, g]
        rw [e]
        rfl
    rw [hr]
    have hn := roomL_n room
    have hu := roomL_uc room (by trivial)
    have head_iff : headM room = true ↔ ¬ ((roomL room).h < 1 ∨ WIDE < (roomL room).h ∨ STUFFS ≤ (roomL room).floor_ ∨ STUFFS ≤ (roomL room).ceiling) := by
      unfold headM
      rw [Bool.and_eq_true, Bool.and_eq_true, Bool.and_eq_true, stuffM_iff, stuffM_iff, decide_eq_true_eq, decide_eq_true_eq]
      simp only [roomL, WIDE]
      trivial
    have corner_eq : ((List.range (roomL room).n).find? fun (i : Nat) => decide (WIDE < ((roomL room).corner i).x) || (decide (WIDE < ((roomL room).corner i).y) || (decide (((roomL room).corner i).x < 0) || (decide (((roomL room).corner i).y < 0) || decide (STUFFS ≤ ((roomL room).corner i).stuff))))) = (List.range (cn room)).find? fun i => !cornerM room i := by
      rw [hn]
      refine find_congr _ fun i hi => ?_
      have hi := List.mem_range.1 hi
      apply bool_ext
      rw [roomL_corner room (by trivial), Nat.mod_eq_of_lt hi]
      unfold cornerM
      have := stuffM_iff (room.getD (3 + 3 * i + 2) 0)
      simp only [Bool.or_eq_true, decide_eq_true_eq, Bool.not_eq_true', Bool.and_eq_false_iff, decide_eq_false_iff_not]
      have s2 : stuffM (room.getD (3 + 3 * i + 2) 0) = false ↔ STUFFS ≤ stuffOf (room.getD (3 + 3 * i + 2) 0) := by
        rw [← Bool.not_eq_true, this]; trivial
      rw [s2]
      unfold WIDE
      trivial
    by_cases hh : headM room = false
    · rw [if_pos hh]
      have : (roomL room).fault = some ⟨2, 0⟩ := by
        unfold Room.fault
        rw [if_neg (by rw [hn]; unfold MOST; trivial), if_pos]
        have : ¬ headM room = true := by rw [hh]; simp
        rw [head_iff] at this
        exact Decidable.not_not.1 this
      rw [this]
    · rw [if_neg hh]
      have hh' : headM room = true := by simpa using hh
      cases ec : (List.range (cn room)).find? fun i => !cornerM room i with
      | some i =>
        have : (roomL room).fault = some ⟨3, i⟩ := by
          unfold Room.fault
          rw [if_neg (by rw [hn]; unfold MOST; trivial), if_neg (head_iff.1 hh'), corner_eq, ec]
        rw [this]
      | none =>
        rw [fault_eq hn hu c3 c64 (head_iff.1 hh') (by rw [corner_eq, ec])]
        simp only
        cases linesFault (cn room) (cu room) <;> rfl
theorem withinM_iff {r : Room} (g : Good r) (w : Whole) : insideM r.n (uc r) r.h (plan w) w.z = true ↔ insideI r w := by
  unfold insideM withinM insideI
  simp only [Bool.and_eq_true, decide_eq_true_eq, List.all_eq_true, Bool.not_eq_true', decide_eq_false_iff_not, List.mem_range, ne_eq]
end Geo
end
section
local macro_rules | `(tactic| trivial) => `(tactic| first | lia -abstractProof | omega)
set_option linter.unusedVariables false
namespace Geo
theorem sumN_comm (f : Nat → Nat → Int) (n : Nat) : ∀ m, sumN n (fun i => sumN m (fun j => f i j)) = sumN m (fun j => sumN n (fun i => f i j))
  | 0 => by simp only [sumN]; exact sumN_zero n (fun _ _ => rfl)
  | m + 1 => by
    simp only [sumN]
    rw [sumN_add, sumN_comm f n m]
theorem sumN_le {f : Nat → Int} : ∀ n, (∀ i, i < n → f i ≤ 0) → sumN n f ≤ 0
  | 0, _ => by simp [sumN]
  | n + 1, h => by
    simp only [sumN]
    have := sumN_le n (fun i hi => h i (by trivial))
    have := h n (by trivial)
    trivial
theorem sumN_neg (f : Nat → Int) : ∀ n, sumN n (fun i => - f i) = - sumN n f
  | 0 => by simp [sumN]
  | n + 1 => by simp only [sumN]; rw [sumN_neg f n]; trivial
theorem row_sum (B x : Int) : ∀ N : Nat, sumN N (fun s => if (s : Int) - B < x then (1 : Int) else 0) = max 0 (min (N : Int) (x + B))
  | 0 => by simp only [sumN]; trivial
  | N + 1 => by
    simp only [sumN]
    rw [row_sum B x N]
    split <;> trivial
theorem up_row {a b : V} (O : Oct a b) (hl : a.2 < b.2) {B : Int} {N : Nat} (hN : (N : Int) = 2 * B) (ha1 : -B ≤ 2 * a.1) (ha2 : 2 * a.1 ≤ B) (hb1 : -B ≤ 2 * b.1) (hb2 : 2 * b.1 ≤ B) :
    ∃ σ : Int, b.1 - a.1 = σ * (b.2 - a.2) ∧ ∀ y : Int, sumN N (fun s => sg (dbl a) (dbl b) ((s : Int) - B, 2 * y + 1)) = if a.2 ≤ y ∧ y < b.2 then 2 * a.1 + σ * (2 * (y - a.2) + 1) + B else 0 := by
  obtain ⟨σ, hσ, hs⟩ := oct_sd O.dbl (by simp only [dbl]; trivial)
  have hb := hs (dbl b)
  rw [sd_self_r] at hb
  have hb1' : b.1 - a.1 = σ * (b.2 - a.2) := by
    rcases Int.mul_eq_zero.1 hb.symm with h | h
    · simp only [dbl] at h; trivial
    · simp only [dbl] at h
      have : σ * (2 * b.2 - 2 * a.2) = 2 * (σ * (b.2 - a.2)) := by grind -abstractProof
      trivial
  refine ⟨σ, hb1', fun y => ?_⟩
  split
  · rename_i hy
    have hx : ∀ s : Nat, sg (dbl a) (dbl b) ((s : Int) - B, 2 * y + 1) = if (s : Int) - B < 2 * a.1 + σ * (2 * (y - a.2) + 1) then 1 else 0 := by
      intro s
      have e : σ * (2 * y + 1 - 2 * a.2) = σ * (2 * (y - a.2) + 1) := by congr 1; trivial
      have hsd : sd (dbl a) (dbl b) ((s : Int) - B, 2 * y + 1) = (2 * b.2 - 2 * a.2) * (2 * a.1 + σ * (2 * (y - a.2) + 1) - ((s : Int) - B)) := by
        rw [hs]; simp only [dbl]; rw [e]
      have k := sign_mul (H := 2 * b.2 - 2 * a.2) (K := 2 * a.1 + σ * (2 * (y - a.2) + 1) - ((s : Int) - B)) (by trivial)
      rw [← hsd] at k
      unfold sg
      generalize sd (dbl a) (dbl b) ((s : Int) - B, 2 * y + 1) = D at *
      simp only [dbl]
      (repeat' split) <;> trivial
    rw [sumN_congr N (fun s _ => hx s), row_sum]
    have : -B ≤ 2 * a.1 + σ * (2 * (y - a.2) + 1) ∧ 2 * a.1 + σ * (2 * (y - a.2) + 1) ≤ B := by
      rcases hσ with rfl | rfl | rfl <;> trivial
    trivial
  · rename_i hy
    refine sumN_zero N (fun s _ => ?_)
    unfold sg
    simp only [dbl]
    (repeat' split) <;> trivial
theorem up_sum (a1 a2 b2 B M σ : Int) (h1 : -M ≤ a2) (h2 : a2 < b2) : ∀ N : Nat,
    sumN N (fun t => if a2 ≤ (t : Int) - M ∧ (t : Int) - M < b2 then 2 * a1 + σ * (2 * ((t : Int) - M - a2) + 1) + B else 0)
      = (max a2 (min b2 (N - M)) - a2) * (2 * a1 + σ * (max a2 (min b2 (N - M)) - a2) + B)
  | 0 => by
    simp only [sumN]
    rw [show max a2 (min b2 (((0 : Nat) : Int) - M)) = a2 by trivial]; grind -abstractProof
  | N + 1 => by
    simp only [sumN]
    rw [up_sum a1 a2 b2 B M σ h1 h2 N]
    split
    · rename_i h
      rw [show max a2 (min b2 ((N : Int) - M)) = N - M by trivial, show max a2 (min b2 (((N + 1 : Nat) : Int) - M)) = N - M + 1 by trivial]
      grind -abstractProof
    · rename_i h
      by_cases hc : (N : Int) - M < a2
      · rw [show max a2 (min b2 ((N : Int) - M)) = a2 by trivial, show max a2 (min b2 (((N + 1 : Nat) : Int) - M)) = a2 by trivial]; trivial
      · rw [show max a2 (min b2 ((N : Int) - M)) = b2 by trivial, show max a2 (min b2 (((N + 1 : Nat) : Int) - M)) = b2 by trivial]; trivial
structure InBox (B M : Int) (a : V) : Prop where
  x1 : -B ≤ 2 * a.1
  x2 : 2 * a.1 ≤ B
  y1 : -M ≤ a.2
  y2 : a.2 ≤ M
theorem edge_sum_up {a b : V} (O : Oct a b) (hl : a.2 ≤ b.2) {B M : Int} {N K : Nat} (hN : (N : Int) = 2 * B) (hK : (K : Int) = 2 * M) (ha : InBox B M a) (hb : InBox B M b) :
    sumN K (fun t => sumN N (fun s => sg (dbl a) (dbl b) ((s : Int) - B, 2 * ((t : Int) - M) + 1))) = (b.2 - a.2) * (a.1 + b.1 + B) := by
  by_cases e : a.2 = b.2
  · rw [sumN_zero K]
    · rw [e]; simp
    · intro t _
      refine sumN_zero N (fun s _ => ?_)
      unfold sg
      simp only [dbl]
      (repeat' split) <;> trivial
  · obtain ⟨σ, h1, h2⟩ := up_row O (by trivial) hN ha.x1 ha.x2 hb.x1 hb.x2
    rw [sumN_congr K (fun t _ => h2 ((t : Int) - M)), up_sum a.1 a.2 b.2 B M σ ha.y1 (by trivial) K]
    have := hb.y2
    rw [show max a.2 (min b.2 ((K : Int) - M)) = b.2 by trivial, ← h1]
    congr 1; trivial
theorem Oct.swap {a b : V} (h : Oct a b) : Oct b a := by unfold Oct at *; trivial
theorem edge_sum {a b : V} (O : Oct a b) {B M : Int} {N K : Nat} (hN : (N : Int) = 2 * B) (hK : (K : Int) = 2 * M) (ha : InBox B M a) (hb : InBox B M b) :
    sumN K (fun t => sumN N (fun s => sg (dbl a) (dbl b) ((s : Int) - B, 2 * ((t : Int) - M) + 1))) = (b.2 - a.2) * (a.1 + b.1 + B) := by
  by_cases h : a.2 ≤ b.2
  · exact edge_sum_up O h hN hK ha hb
  · have := edge_sum_up O.swap (by trivial) hN hK hb ha
    have e : ∀ t s : Nat, sg (dbl b) (dbl a) ((s : Int) - B, 2 * ((t : Int) - M) + 1) = - sg (dbl a) (dbl b) ((s : Int) - B, 2 * ((t : Int) - M) + 1) := fun t s => sg_swap _ _ _
    simp only [e, sumN_neg] at this
    have e2 : (a.2 - b.2) * (b.1 + a.1 + B) = - ((b.2 - a.2) * (a.1 + b.1 + B)) := by grind -abstractProof
    trivial
theorem ex_box (v : Nat → V) : ∀ n, ∃ B M : Nat, ∀ j, j ≤ n → InBox B M (v j)
  | 0 => by
    refine ⟨(2 * (v 0).1).natAbs, (v 0).2.natAbs, fun j hj => ?_⟩
    have e : j = 0 := by trivial
    subst e
    exact ⟨by trivial, by trivial, by trivial, by trivial⟩
  | n + 1 => by
    obtain ⟨B, M, h⟩ := ex_box v n
    refine ⟨max B (2 * (v (n + 1)).1).natAbs, max M (v (n + 1)).2.natAbs, fun j hj => ?_⟩
    by_cases e : j = n + 1
    · subst e; exact ⟨by trivial, by trivial, by trivial, by trivial⟩
    · have := h j (by trivial)
      exact ⟨by have := this.x1; trivial, by have := this.x2; trivial, by have := this.y1; trivial, by have := this.y2; trivial⟩
theorem sum_range (f : Nat → Int) : ∀ n, ((List.range n).map f).sum = sumN n f
  | 0 => by simp [sumN]
  | n + 1 => by rw [List.range_succ, List.map_append, List.sum_append_int, sum_range f n]; simp [sumN]
theorem area_wn {n : Nat} {u : Nat → V} (per : ∀ i, u (i + n) = u i) (O : ∀ j, Oct (u j) (u (j + 1))) :
    ∃ (B M : Int) (N K : Nat), areaM n u = sumN K (fun t => sumN N (fun s => wn n (fun i => dbl (u i)) ((s : Int) - B, 2 * ((t : Int) - M) + 1))) := by
  obtain ⟨B, M, hb⟩ := ex_box u n
  refine ⟨B, M, 2 * B, 2 * M, ?_⟩
  unfold wn
  have h1 : ∀ t : Nat, sumN (2 * B) (fun s => sumN n (fun j => sg (dbl (u j)) (dbl (u (j + 1))) ((s : Int) - B, 2 * ((t : Int) - M) + 1))) =
      sumN n (fun j => sumN (2 * B) (fun s => sg (dbl (u j)) (dbl (u (j + 1))) ((s : Int) - B, 2 * ((t : Int) - M) + 1))) := fun t => (sumN_comm _ _ _).symm
  rw [sumN_congr (2 * M) (fun t _ => h1 t), sumN_comm (fun t j => sumN (2 * B) (fun s => sg (dbl (u j)) (dbl (u (j + 1))) ((s : Int) - B, 2 * ((t : Int) - M) + 1)))]
  rw [sumN_congr n (fun j hj => edge_sum (O j) (B := B) (M := M) (N := 2 * B) (K := 2 * M) (by trivial) (by trivial) (hb j (by trivial)) (hb (j + 1) (by trivial)))]
  unfold areaM
  rw [sum_range]
  have e : ∀ j, (u (j + 1)).2 - (u j).2 = (u (j + 1)).2 - (u j).2 := fun _ => rfl
  have e1 : ∀ j, ((u (j + 1)).2 - (u j).2) * ((u j).1 + (u (j + 1)).1 + B) =
      ((u j).1 * (u (j + 1)).2 - (u (j + 1)).1 * (u j).2) + (((u (j + 1)).1 * (u (j + 1)).2 + (u (j + 1)).2 * B) - ((u j).1 * (u j).2 + (u j).2 * B)) := by intro j; grind -abstractProof
  rw [sumN_congr n (fun j _ => e1 j), sumN_add, sumN_tele (fun j => (u j).1 * (u j).2 + (u j).2 * B)]
  have : u n = u 0 := by have := per 0; simpa using this
  rw [this]; trivial
theorem hh_cases (a b : V) : hh a b = 0 ∨ hh a b = 1 := by unfold hh; split <;> simp
theorem lefty_dbl {n : Nat} {u : Nat → V} (P : Poly n u) (O : ∀ j, Oct (u j) (u (j + 1))) (ha : 0 < areaM n u) : lefty n (fun i => dbl (u i)) 0 = 1 := by
  obtain ⟨B, M, N, K, h⟩ := area_wn P.per O
  refine Decidable.byContradiction fun hc => ?_
  have : sumN K (fun t => sumN N (fun s => wn n (fun i => dbl (u i)) ((s : Int) - B, 2 * ((t : Int) - M) + 1))) ≤ 0 := by
    refine sumN_le K (fun t _ => sumN_le N (fun s _ => ?_))
    have key := along_all P.dbl (fun j => (O j).dbl) (y := 2 * ((t : Int) - M) + 1) (fun j => by simp only [dbl]; trivial) ((s : Int) - B)
    rcases key with k | ⟨k1, k2⟩
    · rw [k.1]; exact Int.le_refl _
    · have l0 : lefty n (fun i => dbl (u i)) 0 = 0 := by trivial
      by_cases hz : ∃ j, j < n ∧ hit (dbl (u j)) (dbl (u (j + 1))) ((s : Int) - B, 2 * ((t : Int) - M) + 1)
      · obtain ⟨j, hj, hhit⟩ := hz
        have ho := wn_on P.dbl j _ hhit.1 hhit.2
        have := hh_cases (dbl (u j)) (dbl (u (j + 1)))
        trivial
      · have := k2 (fun j hj hh => hz ⟨j, hj, hh⟩)
        trivial
  trivial
end Geo
end
section
local macro_rules | `(tactic| trivial) => `(tactic| first | lia -abstractProof | omega)
set_option linter.unusedVariables false
namespace Geo
def scl (k : Int) (a : V) : V := (k * a.1, k * a.2)
theorem sd_scl (k : Int) (a b c : V) : sd (scl k a) (scl k b) (scl k c) = k * k * sd a b c := by simp only [sd, scl]; grind -abstractProof
theorem kk_pos {k : Int} (hk : 0 < k) : 0 < k * k := Int.mul_pos hk hk
theorem mul_le_iff {k a b : Int} (hk : 0 < k) : k * a ≤ k * b ↔ a ≤ b := ⟨fun h => Int.le_of_mul_le_mul_left h hk, fun h => Int.mul_le_mul_of_nonneg_left h (Int.le_of_lt hk)⟩
theorem mul_lt_iff {k a b : Int} (hk : 0 < k) : k * a < k * b ↔ a < b := by have := mul_le_iff (a := b) (b := a) hk; trivial
theorem mm_le (a b c d : Int) : min a b ≤ max c d ↔ (a ≤ c ∨ a ≤ d ∨ b ≤ c ∨ b ≤ d) := by trivial
theorem lm_scl {k : Int} (hk : 0 < k) (a b c d : V) : lm (scl k a) (scl k b) (scl k c) (scl k d) ↔ lm a b c d := by
  unfold lm
  rw [sd_scl, sd_scl, sd_scl, sd_scl]
  have e : ∀ x y : Int, (k * k * x * (k * k * y) ≤ 0) ↔ x * y ≤ 0 := by
    intro x y
    have : k * k * x * (k * k * y) = (k * k) * (k * k) * (x * y) := by grind -abstractProof
    rw [this]
    have k4 := kk_pos (kk_pos hk)
    have := mul_le_iff (a := x * y) (b := 0) k4
    rw [Int.mul_zero] at this
    exact this
  rw [e, e]
  simp only [mm_le, scl, mul_le_iff hk]
theorem Poly.scl {n : Nat} {u : Nat → V} (P : Poly n u) {k : Int} (hk : 0 < k) : Poly n (fun i => scl k (u i)) :=
  ⟨P.n3, fun i => by simp only [P.per i], fun i => by
    have := P.cor i
    have k2 := kk_pos hk
    simp only [sd_scl]
    intro e
    rcases Int.mul_eq_zero.1 e with h | h
    · trivial
    · exact this h, fun i j h1 h2 => by
    rw [lm_scl hk]; exact P.far i j h1 h2⟩
theorem pos_kk {k x : Int} (hk : 0 < k) : (0 < k * k * x ↔ 0 < x) ∧ (k * k * x < 0 ↔ x < 0) ∧ (k * k * x = 0 ↔ x = 0) := sign_mul (kk_pos hk)
theorem sg_scl {k : Int} (hk : 0 < k) (a b p : V) : sg (scl k a) (scl k b) (scl k p) = sg a b p := by
  unfold sg
  rw [sd_scl]
  simp only [scl, mul_le_iff hk, mul_lt_iff hk, pos_kk hk]
theorem g_scl {k : Int} (hk : 0 < k) (a b p : V) : g (scl k a) (scl k b) (scl k p) = g a b p := by
  unfold g
  rw [sd_scl]
  simp only [scl, mul_le_iff hk, mul_lt_iff hk, pos_kk hk]
theorem G_scl {k : Int} (hk : 0 < k) (a b p : V) : G (scl k a) (scl k b) (scl k p) = G a b p := by unfold G; rw [g_scl hk, g_scl hk]
theorem wn_scl {k : Int} (hk : 0 < k) (n : Nat) (u : Nat → V) (p : V) : wn n (fun i => scl k (u i)) (scl k p) = wn n u p := sumN_congr n (fun j _ => sg_scl hk _ _ _)
theorem hh_scl {k : Int} (hk : 0 < k) (a b : V) : hh (scl k a) (scl k b) = hh a b := by
  have e : k * a.2 = k * b.2 ↔ a.2 = b.2 := by
    have h1 := mul_le_iff (a := a.2) (b := b.2) hk
    have h2 := mul_le_iff (a := b.2) (b := a.2) hk
    trivial
  unfold hh
  simp only [scl, mul_lt_iff hk, e]
theorem be_scl {k : Int} (hk : 0 < k) (a b c : V) : be (scl k a) (scl k b) (scl k c) = be a b c := by unfold be; rw [sg_scl hk, G_scl hk]
theorem lefty_scl {k : Int} (hk : 0 < k) (n : Nat) (u : Nat → V) (i : Nat) : lefty n (fun i => scl k (u i)) i = lefty n u i := by
  unfold lefty; rw [wn_scl hk, be_scl hk, hh_scl hk]
theorem lefty_one {n : Nat} {u : Nat → V} (P : Poly n u) (O : ∀ j, Oct (u j) (u (j + 1))) (ha : 0 < areaM n u) : lefty n u 0 = 1 := by
  have := lefty_dbl P O ha
  rw [← this]
  exact (lefty_scl (k := 2) (by trivial) n u 0).symm
theorem mid_on {A b m : V} {s t : Int} (h : Mid A b m s t) : sd A b m = 0 := by
  have := mid_sd (c := A) (d := b) h
  rw [sd_self_l, sd_self_r] at this
  have s0 := h.s0
  have t0 := h.t0
  rcases Int.mul_eq_zero.1 (show (s + t) * sd A b m = 0 by trivial) with h | h
  · trivial
  · exact h
theorem mid_swap {A b m : V} {s t : Int} (h : Mid A b m s t) : Mid b A m t s := ⟨h.t0, h.s0, by have := h.e1; grind -abstractProof, by have := h.e2; grind -abstractProof⟩
theorem mid_lm {A b m : V} {s t : Int} (h : Mid A b m s t) : lm m m A b := by
  rw [lm_pt]
  exact ⟨mid_on h, mid_box h.s0 h.t0 h.e1, mid_box h.s0 h.t0 h.e2⟩
theorem mid_cmp {A b x s t : Int} (s0 : 0 < s) (t0 : 0 < t) (e : (s + t) * x = s * A + t * b) : (A < b ∧ A < x ∧ x < b) ∨ (A = b ∧ x = A) ∨ (b < A ∧ b < x ∧ x < A) := by
  have e1 : (s + t) * (x - A) = t * (b - A) := by grind -abstractProof
  have e2 : (s + t) * (b - x) = s * (b - A) := by grind -abstractProof
  have k1 := sign_same (by trivial) t0 e1
  have k2 := sign_same (by trivial) s0 e2
  trivial
theorem be_mid' {A v B m : V} {s t : Int} (h : Mid A v m s t) (hs : sd A v B ≠ 0) : be m v B = be A v B := by
  have s0 := h.s0
  have t0 := h.t0
  rcases mid_cmp s0 t0 h.e2 with k | ⟨k, k'⟩ | k
  · exact be_mid h hs (.inl k.2) (mid_on h)
  · have c1 : sd v B A = sd A v B := sd_cyc A v B
    have c2 : sd v B m = sd m v B := sd_cyc m v B
    have k1 := sign_same (by trivial) s0 (mid_sd' (c := B) h)
    unfold be G g sg
    rw [c1, c2, k']
    rw [k]
    (repeat' split) <;> trivial
  · exact be_mid h hs (.inr k.2) (mid_on h)
theorem wn_mid {n : Nat} {v : Nat → V} (P : Poly n v) (i : Nat) (m : V) {s t : Int} (hm : Mid (v i) (v (i + 1)) m s t) :
    wn n v m = lefty n v 0 - hh (v i) (v (i + 1)) := by
  have s0 := hm.s0
  have t0 := hm.t0
  have hn3 := P.n3
  have hc := mid_on hm
  rw [← lefty_all P i]
  unfold lefty
  have hd := wn_dis P.per m (v (i + 1)) i
  obtain ⟨l, hl⟩ : ∃ m, n = m + 3 := ⟨n - 3, by trivial⟩
  have d0 : dis v m (v (i + 1)) (i + 0) = 0 := by
    unfold dis
    rw [Nat.add_zero, sg_self_r, sg_zero hc, G_zero (sd_self_r _ _), G_zero]; rfl
    have : sd m (v (i + 1)) (v i) = - sd (v i) (v (i + 1)) m := by simp only [sd]; grind -abstractProof
    trivial
  have d1 : dis v m (v (i + 1)) (i + (0 + 1)) = be (v i) (v (i + 1)) (v (i + 2)) := by
    rw [← be_mid' hm (P.cor i)]
    unfold dis be
    rw [show i + (0 + 1) = i + 1 by trivial, show i + 1 + 1 = i + 2 by trivial, sg_self_l, G_zero (sd_self_r _ _)]; trivial
  have dk : ∀ k, k < l → dis v m (v (i + 1)) (i + (k + 1 + 1)) = 0 := by
    intro k hk
    apply dis_zero
    intro hx
    have := P.far i (k + 2) (by trivial) (by trivial)
    exact this (lm_sub hm hx)
  have de : dis v m (v (i + 1)) (i + (l + 1 + 1)) = 0 := by
    apply dis_zero
    rintro ⟨-, -, -, h4⟩
    have hp : v (i + (l + 1 + 1) + 1) = v i := by
      rw [show i + (l + 1 + 1) + 1 = i + n by trivial, P.per]
    have hcor := P.cor (i + (l + 1 + 1))
    rw [hp, show i + (l + 1 + 1) + 2 = (i + 1) + n by trivial, P.per] at hcor
    rw [hp] at h4
    have key := mid_sd (c := v (i + (l + 1 + 1))) (d := v i) hm
    rw [sd_self_r] at key
    have kk := sign_same (k := s + t) (l := t) (X := sd (v (i + (l + 1 + 1))) (v i) m) (Y := sd (v (i + (l + 1 + 1))) (v i) (v (i + 1))) (by trivial) t0 (by trivial)
    rw [mul_nonpos_iff'] at h4
    trivial
  rw [hl, sumN_head, sumN_head] at hd
  rw [show (l + 1) = Nat.succ l from rfl] at hd
  simp only [sumN] at hd
  rw [sumN_zero l dk, d0, d1, de] at hd
  rw [hl]
  trivial
set_option maxHeartbeats 4000000 in
theorem jump_local {a b m p : V} {s t : Int} (h : Mid a b p s t) (hs : sd a b m ≠ 0) :
    sg a b m - (G m p b - G m p a) = hh a b - (if 0 < sd a b m then 0 else 1) := by
  have s0 := h.s0
  have t0 := h.t0
  have c1 : sd m p b = sd p b m := (sd_cyc m p b).symm
  have c2 : sd p m b = - sd p b m := by rw [sd_swap, c1]
  have c3 : sd m p a = sd p a m := (sd_cyc m p a).symm
  have c4 : sd p m a = - sd p a m := by rw [sd_swap, c3]
  have k1 := sign_same (by trivial) s0 (mid_sd' (c := m) h)
  have k2 := sign_same (by trivial) t0 (mid_sd' (c := m) (mid_swap h))
  rw [sd_swap a b] at k2
  have hor : a.2 = b.2 → (0 < sd a b m ↔ (a.1 < b.1 ∧ a.2 < m.2) ∨ (b.1 < a.1 ∧ m.2 < a.2)) := by
    intro e
    have : sd a b m = (b.1 - a.1) * (m.2 - a.2) := by simp only [sd]; rw [e]; grind -abstractProof
    rw [this, mul_pos_iff']; trivial
  have hor2 : a.2 = b.2 → (sd a b m < 0 ↔ (a.1 < b.1 ∧ m.2 < a.2) ∨ (b.1 < a.1 ∧ a.2 < m.2)) := by
    intro e
    have : sd a b m = (b.1 - a.1) * (m.2 - a.2) := by simp only [sd]; rw [e]; grind -abstractProof
    rw [this, mul_neg_iff']; trivial
  have hy := mid_cmp s0 t0 h.e2
  unfold sg G g hh
  rw [c1, c2, c3, c4]
  generalize sd a b m = D at *
  generalize sd p b m = E at *
  generalize sd p a m = F at *
  rcases hy with hy | ⟨hy, hy'⟩ | hy
  · rcases Int.lt_or_lt_of_ne hs with h | h <;> (repeat' (split <;> try (exfalso; trivial))) <;> trivial
  · have := hor hy
    have := hor2 hy
    rcases Int.lt_or_lt_of_ne hs with h | h <;> (repeat' (split <;> try (exfalso; trivial))) <;> trivial
  · rcases Int.lt_or_lt_of_ne hs with h | h <;> (repeat' (split <;> try (exfalso; trivial))) <;> trivial
theorem wn_jump {n : Nat} {v : Nat → V} (P : Poly n v) {i : Nat} (hi : i < n) {m p : V} {s t : Int} (hp : Mid (v i) (v (i + 1)) p s t) (hm : sd (v i) (v (i + 1)) m ≠ 0)
    (hf : ∀ j, j < n → j ≠ i → ¬ lm m p (v j) (v (j + 1))) : wn n v m = lefty n v 0 - (if 0 < sd (v i) (v (i + 1)) m then 0 else 1) := by
  have hw := wn_mid P i p hp
  have hd := wn_dis P.per m p 0
  rw [sumN_one i n hi (fun j hj hne => by rw [Nat.zero_add]; exact dis_zero (hf j hj hne))] at hd
  rw [Nat.zero_add] at hd
  unfold dis at hd
  rw [sg_zero (mid_on hp)] at hd
  have := jump_local hp hm
  trivial
theorem mid_one {n : Nat} {v : Nat → V} (P : Poly n v) {m : V} {i k : Nat} (hk : k < n) (k0 : k ≠ 0) {s t : Int} (h1 : Mid (v i) (v (i + 1)) m s t) :
    ¬ lm m m (v (i + k)) (v (i + k + 1)) := by
  intro h2
  have s0 := h1.s0
  have t0 := h1.t0
  have z := ((lm_pt _ _ _).1 h2).1
  by_cases k1 : k = 1
  · subst k1
    have key := mid_sd (c := v (i + 1)) (d := v (i + 1 + 1)) h1
    rw [z, sd_self_l, sd_cyc] at key
    have := P.cor i
    rcases Int.mul_eq_zero.1 (show s * sd (v i) (v (i + 1)) (v (i + 2)) = 0 by
      have : v (i + 1 + 1) = v (i + 2) := rfl
      rw [this] at key
      trivial) with h | h
    · trivial
    · exact this h
  by_cases kn : k + 1 = n
  · have e : v (i + k + 1) = v i := by rw [show i + k + 1 = i + n by trivial, P.per]
    rw [e] at z
    have cor := P.cor (i + k)
    rw [e, show i + k + 2 = (i + 1) + n by trivial, P.per] at cor
    have key := mid_sd (c := v (i + k)) (d := v i) h1
    rw [z, sd_self_r] at key
    rcases Int.mul_eq_zero.1 (show t * sd (v (i + k)) (v i) (v (i + 1)) = 0 by trivial) with h | h
    · trivial
    · exact cor h
  have h3 : lm (v (i + k)) (v (i + k + 1)) m (v (i + 1)) := lm_of_end _ h2
  exact P.far i k (by trivial) (by trivial) (lm_sub h1 ((lm_comm _ _ _ _).1 h3))
theorem mid_only {n : Nat} {v : Nat → V} (P : Poly n v) {m : V} {i j : Nat} (hi : i < n) (hj : j < n) (hne : j ≠ i) {s t : Int} (h1 : Mid (v i) (v (i + 1)) m s t) : ¬ lm m m (v j) (v (j + 1)) := by
  rcases Nat.le_total i j with h | h
  · have := mid_one P (i := i) (k := j - i) (by trivial) (by trivial) h1
    rwa [show i + (j - i) = j by trivial] at this
  · have := mid_one P (i := i) (k := j + n - i) (by trivial) (by trivial) h1
    rw [show i + (j + n - i) = j + n by trivial, P.per, show j + n + 1 = (j + 1) + n by trivial, P.per] at this
    exact this
theorem mid_of_dot {a b p : V} (h0 : sd a b p = 0) (h1 : 0 < dot (vec a b) (vec a p)) (h2 : dot (vec a b) (vec a p) < dot (vec a b) (vec a b)) :
    Mid a b p (dot (vec a b) (vec a b) - dot (vec a b) (vec a p)) (dot (vec a b) (vec a p)) := by
  refine ⟨by trivial, h1, ?_, ?_⟩
  · have : dot (vec a b) (vec a b) * (p.1 - a.1) - dot (vec a b) (vec a p) * (b.1 - a.1) = (b.2 - a.2) * (- sd a b p) := by simp only [dot, vec, sd]; grind -abstractProof
    rw [h0] at this
    simp only [Int.neg_zero, Int.mul_zero] at this
    grind -abstractProof
  · have : dot (vec a b) (vec a b) * (p.2 - a.2) - dot (vec a b) (vec a p) * (b.2 - a.2) = (b.1 - a.1) * (sd a b p) := by simp only [dot, vec, sd]; grind -abstractProof
    rw [h0] at this
    simp only [Int.mul_zero] at this
    grind -abstractProof
theorem mid_dot {a b p : V} {s t : Int} (hab : a ≠ b) (h : Mid a b p s t) : 0 < dot (vec a b) (vec a p) ∧ dot (vec a b) (vec a p) < dot (vec a b) (vec a b) := by
  have s0 := h.s0
  have t0 := h.t0
  have S0 := sq2_pos hab
  have e : (s + t) * dot (vec a b) (vec a p) = t * dot (vec a b) (vec a b) := by
    have h1 := h.e1
    have h2 := h.e2
    simp only [dot, vec]
    have : (s + t) * ((p.1 - a.1) * (b.1 - a.1) + (p.2 - a.2) * (b.2 - a.2)) = ((s + t) * p.1 - (s + t) * a.1) * (b.1 - a.1) + ((s + t) * p.2 - (s + t) * a.2) * (b.2 - a.2) := by grind -abstractProof
    rw [this, h1, h2]; grind -abstractProof
  have e2 : (s + t) * (dot (vec a b) (vec a b) - dot (vec a b) (vec a p)) = s * dot (vec a b) (vec a b) := by grind -abstractProof
  have k1 := sign_same (by trivial) t0 e
  have k2 := sign_same (by trivial) s0 e2
  trivial
theorem mid_of_lm {a b p : V} (h : lm p p a b) (ha : p ≠ a) (hb : p ≠ b) : ∃ s t, Mid a b p s t :=
  ⟨_, _, mid_of_dot ((lm_pt _ _ _).1 h).1 (in_between h ha) (in_between' h hb)⟩
theorem mid_ne {a b p : V} {s t : Int} (hab : a ≠ b) (h : Mid a b p s t) : p ≠ a ∧ p ≠ b := by
  have := mid_dot hab h
  constructor
  · rintro rfl
    simp only [dot, vec] at this
    simp at this
  · rintro rfl
    trivial
end Geo
end
section
local macro_rules | `(tactic| trivial) => `(tactic| first | lia -abstractProof | omega)
set_option linter.unusedVariables false
namespace Geo
open Eh
structure Sc (k : Int) (p : Pt) (P : V) : Prop where
  x : (k : Rat) * p.x = P.1
  y : (k : Rat) * p.y = P.2
theorem kpos {k : Int} (hk : 0 < k) : (0 : Rat) < (k : Rat) := by exact_mod_cast hk
theorem sc_le {k : Int} (hk : 0 < k) {x : Rat} {X : Int} (h : (k : Rat) * x = X) (a : Int) :
    ((a : Rat) ≤ x ↔ k * a ≤ X) ∧ (x ≤ (a : Rat) ↔ X ≤ k * a) ∧ (x < (a : Rat) ↔ X < k * a) ∧ ((a : Rat) < x ↔ k * a < X) ∧ (x = (a : Rat) ↔ X = k * a) := by
  have hk' := kpos hk
  have e3 : x < (a:Rat) ↔ X < k * a := by
    rw [← Rat.mul_lt_mul_left hk', h, ← Rat.intCast_mul, Rat.intCast_lt_intCast]
  have e4 : (a:Rat) < x ↔ k * a < X := by
    rw [← Rat.mul_lt_mul_left hk', h, ← Rat.intCast_mul, Rat.intCast_lt_intCast]
  have e1 : (a:Rat) ≤ x ↔ k * a ≤ X := by rw [← Rat.not_lt, e3]; omega
  have e2 : x ≤ (a:Rat) ↔ X ≤ k * a := by rw [← Rat.not_lt, e4]; omega
  refine ⟨e1, e2, e3, e4, ?_⟩
  constructor
  · intro h; subst h; have := e1.1 (by grind); have := e2.1 (by grind); omega
  · intro h
    have h1 := e1.2 (by omega)
    have h2 := e2.2 (by omega)
    grind
theorem left_sc {k : Int} {p : Pt} {P : V} (h : Sc k p P) (a b : V) : (k : Rat) * k * left (ptOf a) (ptOf b) p = ((sd (scl k a) (scl k b) P : Int) : Rat) := by
  have h1 := h.x
  have h2 := h.y
  simp only [left, ptOf, sd, scl]
  push_cast
  rw [← h1, ← h2]
  grind
theorem sign_sc {k S : Int} (hk : 0 < k) {L : Rat} (e : (k : Rat) * k * L = (S : Rat)) : (0 < L ↔ 0 < S) ∧ (L < 0 ↔ S < 0) ∧ (L = 0 ↔ S = 0) := by
  have hk' := kpos hk
  have hkk := Rat.mul_pos hk' hk'
  have e1 : 0 < L ↔ 0 < S := by
    rw [← Rat.mul_lt_mul_left hkk, e, Rat.mul_zero]
    exact Rat.intCast_pos
  have e2 : L < 0 ↔ S < 0 := by
    rw [← Rat.mul_lt_mul_left hkk, e, Rat.mul_zero]
    show (S : Rat) < ((0 : Int) : Rat) ↔ _
    exact Rat.intCast_lt_intCast
  exact ⟨e1, e2, by grind⟩
theorem left_sign_sc {k : Int} (hk : 0 < k) {p : Pt} {P : V} (h : Sc k p P) (a b : V) :
    (0 < left (ptOf a) (ptOf b) p ↔ 0 < sd (scl k a) (scl k b) P) ∧ (left (ptOf a) (ptOf b) p < 0 ↔ sd (scl k a) (scl k b) P < 0) ∧ (left (ptOf a) (ptOf b) p = 0 ↔ sd (scl k a) (scl k b) P = 0) :=
  sign_sc hk (left_sc h a b)
theorem onLine_sc {k : Int} (hk : 0 < k) {p : Pt} {P : V} (h : Sc k p P) (a b : V) : onLine (ptOf a, ptOf b) p = true ↔ lm P P (scl k a) (scl k b) := by
  rw [lm_pt]
  unfold onLine between
  have k1 := (left_sign_sc hk h a b).2.2
  have x1 := sc_le hk h.x a.1
  have x2 := sc_le hk h.x b.1
  have y1 := sc_le hk h.y a.2
  have y2 := sc_le hk h.y b.2
  simp only [Bool.and_eq_true, beq_iff_eq, decide_eq_true_eq]
  rw [k1]
  simp only [rmin_le, rle_max, ptOf]
  rw [x1.1, x2.1, y1.1, y2.1, x1.2.1, x2.2.1, y1.2.1, y2.2.1]
  simp only [scl]
  omega
theorem isEnd_sc {k : Int} (hk : 0 < k) {p : Pt} {P : V} (h : Sc k p P) (a b : V) : isEnd (ptOf a, ptOf b) p = true ↔ P = scl k a ∨ P = scl k b := by
  unfold isEnd
  have x1 := sc_le hk h.x a.1
  have x2 := sc_le hk h.x b.1
  have y1 := sc_le hk h.y a.2
  have y2 := sc_le hk h.y b.2
  simp only [Bool.or_eq_true, Bool.and_eq_true, beq_iff_eq, ptOf]
  rw [x1.2.2.2.2, x2.2.2.2.2, y1.2.2.2.2, y2.2.2.2.2]
  simp only [scl, Prod.ext_iff]
theorem crosses_sc {k : Int} (hk : 0 < k) {p : Pt} {P : V} (h : Sc k p P) (a b : V) : crosses p (ptOf a, ptOf b) = true ↔ sg (scl k a) (scl k b) P ≠ 0 := by
  have k1 := left_sign_sc hk h a b
  have y1 := sc_le hk h.y a.2
  have y2 := sc_le hk h.y b.2
  unfold crosses sg
  have c1 : ((ptOf a, ptOf b).1.y ≤ p.y ∧ p.y < (ptOf a, ptOf b).2.y) ↔ k * a.2 ≤ P.2 ∧ P.2 < k * b.2 := and_congr y1.1 y2.2.2.1
  have c2 : ((ptOf a, ptOf b).2.y ≤ p.y ∧ p.y < (ptOf a, ptOf b).1.y) ↔ k * b.2 ≤ P.2 ∧ P.2 < k * a.2 := and_congr y2.1 y1.2.2.1
  simp only [c1, c2]
  have d1 : (scl k a).2 = k * a.2 := rfl
  have d2 : (scl k b).2 = k * b.2 := rfl
  simp only [d1, d2]
  generalize sd (scl k a) (scl k b) P = S at *
  split
  · rw [decide_eq_true_eq, k1.1]
    by_cases h1 : 0 < S
    · rw [if_pos (by omega), if_neg (by omega)]; simp [h1]
    · rw [if_neg (by omega), if_neg (by omega)]; simp [h1]
  · split
    · rw [decide_eq_true_eq, k1.2.1]
      by_cases h1 : S < 0
      · rw [if_neg (by omega), if_pos (by omega)]; simp [h1]
      · rw [if_neg (by omega), if_neg (by omega)]; simp [h1]
    · rw [if_neg (by omega), if_neg (by omega)]; simp
theorem within_sc (r : Room) {k : Int} (hk : 0 < k) {p : Pt} {P : V} (h : Sc k p P) :
    r.within p = true ↔ (∀ j, j < r.n → ¬ lm P P (scl k (uc r j)) (scl k (uc r (j + 1)))) ∧ wn r.n (fun i => scl k (uc r i)) P % 2 = 1 := by
  unfold Room.within Room.lines
  rw [Bool.and_eq_true]
  have e1 : (!((List.range r.n).map r.line).any fun l => onLine l p) = true ↔ (∀ j, j < r.n → ¬ lm P P (scl k (uc r j)) (scl k (uc r (j + 1)))) := by
    rw [Bool.not_eq_true', List.any_map, List.any_eq_false]
    constructor
    · intro hh j hj hl
      exact hh j (List.mem_range.2 hj) (by rw [Function.comp, line_uc, onLine_sc hk h]; exact hl)
    · intro hh j hj hl
      rw [Function.comp, line_uc, onLine_sc hk h] at hl
      exact hh j (List.mem_range.1 hj) hl
  have e2 : (((List.range r.n).map r.line).filter (crosses p)).length = ((List.range r.n).filter (fun i => crosses p (r.line i))).length := by
    rw [List.filter_map, List.length_map]; rfl
  have e3 := count_par (fun i => crosses p (r.line i)) (fun j => sg (scl k (uc r j)) (scl k (uc r (j + 1))) P) r.n
    (fun i hi => ⟨by simp only [line_uc]; exact crosses_sc hk h _ _, sg_cases _ _ _⟩)
  rw [e1, e2]
  have e4 : (((List.range r.n).filter (fun i => crosses p (r.line i))).length % 2 == 1) = true ↔ wn r.n (fun i => scl k (uc r i)) P % 2 = 1 := by
    unfold wn
    rw [← e3, beq_iff_eq]
    omega
  rw [e4]
theorem touches_sc {k : Int} (hk : 0 < k) {p q : Pt} {P Q : V} (hp : Sc k p P) (hq : Sc k q Q) (a b : V) : touches p q (ptOf a, ptOf b) = true ↔ touchI P Q (scl k a) (scl k b) := by
  have key := touches_iff ⟨P.1, P.2, 0⟩ ⟨Q.1, Q.2, 0⟩ (scl k a) (scl k b)
  have ep : plan ⟨P.1, P.2, 0⟩ = P := rfl
  have eq : plan ⟨Q.1, Q.2, 0⟩ = Q := rfl
  rw [ep, eq] at key
  rw [← key]
  have hk' := kpos hk
  have hk0 : (k : Rat) ≠ 0 := by grind
  have hkk0 : (k : Rat) * k ≠ 0 := by
    have := Rat.mul_pos hk' hk'
    grind
  have on := onLine_sc hk hp a b
  have on2 := (onLine_sc (k := 1) (by omega) (p := (⟨P.1, P.2, 0⟩ : Whole).pt) (P := P) ⟨by simp only [Whole.pt]; push_cast; grind, by simp only [Whole.pt]; push_cast; grind⟩ (scl k a) (scl k b))
  have s1 : ∀ c : V, scl 1 c = c := by intro c; simp only [scl]; ext <;> simp
  rw [s1, s1, ← on] at on2
  have x1 := hp.x
  have y1 := hp.y
  have x2 := hq.x
  have y2 := hq.y
  have on3 : onLine (ptOf (scl k a), ptOf (scl k b)) (⟨P.1, P.2, 0⟩ : Whole).pt = onLine (ptOf a, ptOf b) p := bool_ext on2
  unfold touches
  simp only [on3]
  simp only [ptOf, Whole.pt, scl, turn, ← x1, ← y1, ← x2, ← y2]
  push_cast
  have cancel : ∀ A d : Rat, d ≠ 0 → (k : Rat) * k * A / (k * k * d) = A / d := by
    intro A d hd
    have : (k : Rat) * k * d ≠ 0 := by
      intro e
      rcases Rat.mul_eq_zero.1 e with h | h
      · exact hkk0 h
      · exact hd h
    have e : A / d * d = A := Rat.div_mul_cancel hd
    have e2 : (k : Rat) * k * A = A / d * (k * k * d) := by
      calc (k : Rat) * k * A = k * k * (A / d * d) := by rw [e]
        _ = A / d * (k * k * d) := by grind
    rw [e2, Rat.mul_div_cancel this]
  have z : ∀ A : Rat, (k : Rat) * k * A = 0 ↔ A = 0 := by
    intro A
    rw [Rat.mul_eq_zero]
    constructor
    · rintro (h | h)
      · exact absurd h hkk0
      · exact h
    · exact .inr
  have d1 : ((k : Rat) * q.x - k * p.x) * (k * b.2 - k * a.2) - (k * q.y - k * p.y) * (k * b.1 - k * a.1) = k * k * ((q.x - p.x) * (b.2 - a.2) - (q.y - p.y) * (b.1 - a.1)) := by grind
  have d2 : ((k : Rat) * a.1 - k * p.x) * (k * b.2 - k * a.2) - (k * a.2 - k * p.y) * (k * b.1 - k * a.1) = k * k * ((a.1 - p.x) * (b.2 - a.2) - (a.2 - p.y) * (b.1 - a.1)) := by grind
  have d3 : ((k : Rat) * a.1 - k * p.x) * (k * q.y - k * p.y) - (k * a.2 - k * p.y) * (k * q.x - k * p.x) = k * k * ((a.1 - p.x) * (q.y - p.y) - (a.2 - p.y) * (q.x - p.x)) := by grind
  have d4 : ((k : Rat) * q.x - k * p.x) * (k * q.x - k * p.x) + (k * q.y - k * p.y) * (k * q.y - k * p.y) = k * k * ((q.x - p.x) * (q.x - p.x) + (q.y - p.y) * (q.y - p.y)) := by grind
  have d5 : ∀ c1 c2 : Rat, ((k : Rat) * c1 - k * p.x) * (k * q.x - k * p.x) + (k * c2 - k * p.y) * (k * q.y - k * p.y) = k * k * ((c1 - p.x) * (q.x - p.x) + (c2 - p.y) * (q.y - p.y)) := by intro c1 c2; grind
  have zx : ((k : Rat) * q.x - k * p.x = 0) ↔ q.x - p.x = 0 := by
    have : (k : Rat) * q.x - k * p.x = k * (q.x - p.x) := by grind
    rw [this, Rat.mul_eq_zero]
    constructor
    · rintro (h | h)
      · exact absurd h hk0
      · exact h
    · exact .inr
  have zy : ((k : Rat) * q.y - k * p.y = 0) ↔ q.y - p.y = 0 := by
    have : (k : Rat) * q.y - k * p.y = k * (q.y - p.y) := by grind
    rw [this, Rat.mul_eq_zero]
    constructor
    · rintro (h | h)
      · exact absurd h hk0
      · exact h
    · exact .inr
  rw [d1, d2, d3, d4, d5, d5]
  simp only [ne_eq, z, zx, zy]
  by_cases h1 : (q.x - p.x) * ((b.2 : Rat) - a.2) - (q.y - p.y) * ((b.1 : Rat) - a.1) = 0
  · simp only [h1, not_true, if_false]
    by_cases h2 : ((a.1 : Rat) - p.x) * (q.y - p.y) - ((a.2 : Rat) - p.y) * (q.x - p.x) = 0
    · simp only [h2, not_true, if_false]
      by_cases h3 : q.x - p.x = 0 ∧ q.y - p.y = 0
      · simp only [h3, and_self, if_true]
      · simp only [h3, if_false]
        have hs : (q.x - p.x) * (q.x - p.x) + (q.y - p.y) * (q.y - p.y) ≠ 0 := by
          intro e
          have n1 : 0 ≤ (q.x - p.x) * (q.x - p.x) := by
            rcases Rat.le_total (a := 0) (b := q.x - p.x) with h | h
            · exact Rat.mul_nonneg h h
            · have := Rat.mul_nonneg (show 0 ≤ -(q.x - p.x) by grind) (show 0 ≤ -(q.x - p.x) by grind)
              grind
          have n2 : 0 ≤ (q.y - p.y) * (q.y - p.y) := by
            rcases Rat.le_total (a := 0) (b := q.y - p.y) with h | h
            · exact Rat.mul_nonneg h h
            · have := Rat.mul_nonneg (show 0 ≤ -(q.y - p.y) by grind) (show 0 ≤ -(q.y - p.y) by grind)
              grind
          have m1 : (q.x - p.x) * (q.x - p.x) = 0 := by grind
          have m2 : (q.y - p.y) * (q.y - p.y) = 0 := by grind
          have := Rat.mul_eq_zero.1 m1
          have := Rat.mul_eq_zero.1 m2
          exact h3 ⟨by grind, by grind⟩
        rw [cancel _ _ hs, cancel _ _ hs]
        exact Iff.rfl
    · simp only [h2, not_false_eq_true, if_true]
  · simp only [h1, not_false_eq_true, if_true]
    rw [cancel _ _ h1, cancel _ _ h1]
    exact Iff.rfl
end Geo
end
section
local macro_rules | `(tactic| trivial) => `(tactic| first | lia -abstractProof | omega)
set_option linter.unusedVariables false
namespace Geo
open Eh
theorem scl_scl (c k : Int) (a : V) : scl c (scl k a) = scl (c * k) a := by simp only [scl, Int.mul_assoc]
def NodV (n : Nat) (v : Nat → V) (o : Option Nat) (Q : V) : Prop := match o with
  | none => (∀ j, j < n → ¬ lm Q Q (v j) (v (j + 1))) ∧ wn n v Q % 2 = 1
  | some i => i < n ∧ ∃ s t, Mid (v i) (v (i + 1)) Q s t
theorem NodV.scl {n : Nat} {v : Nat → V} {o : Option Nat} {Q : V} {c : Int} (hc : 0 < c) (h : NodV n v o Q) : NodV n (fun i => scl c (v i)) o (scl c Q) := by
  cases o with
  | none =>
    refine ⟨fun j hj => ?_, ?_⟩
    · rw [lm_scl hc]; exact h.1 j hj
    · rw [wn_scl hc]; exact h.2
  | some i =>
    obtain ⟨hi, s, t, hm⟩ := h
    refine ⟨hi, s, t, hm.s0, hm.t0, ?_, ?_⟩
    · have := hm.e1; simp only [Geo.scl]; grind -abstractProof
    · have := hm.e2; simp only [Geo.scl]; grind -abstractProof
theorem NodV.off {n : Nat} {v : Nat → V} (P : Poly n v) {o : Option Nat} {Q : V} (h : NodV n v o Q) {j : Nat} (hj : j < n) (ho : o ≠ some j) : ¬ lm Q Q (v j) (v (j + 1)) := by
  cases o with
  | none => exact h.1 j hj
  | some i =>
    obtain ⟨hi, s, t, hm⟩ := h
    exact mid_only P hi hj (fun e => ho (by rw [e])) hm
theorem lm_end {p q a b : V} (h : lm q q a b) : lm p q a b := (lm_swap_l _ _ _ _).1 ((lm_comm _ _ _ _).1 (lm_of_end p h))
theorem carry {n : Nat} {v : Nat → V} (P : Poly n v) (hl : lefty n v 0 = 1) {o : Option Nat} {Q X : V} (hN : NodV n v o Q)
    (hf : ∀ j, j < n → o ≠ some j → ¬ lm Q X (v j) (v (j + 1))) (ho : ∀ i, o = some i → 0 < sd (v i) (v (i + 1)) X) : NodV n v none X := by
  cases o with
  | none =>
    refine ⟨fun j hj hx => hf j hj (by simp) (lm_end hx), ?_⟩
    rw [← wn_free P.per (p := Q) (q := X) (fun j hj => hf j hj (by simp))]
    exact hN.2
  | some i =>
    obtain ⟨hi, s, t, hm⟩ := hN
    have hs := ho i rfl
    refine ⟨fun j hj hx => ?_, ?_⟩
    · by_cases e : j = i
      · subst e
        have := ((lm_pt _ _ _).1 hx).1
        trivial
      · exact hf j hj (by simpa using fun z => e z.symm) (lm_end hx)
    · have := wn_jump P hi (m := X) (p := Q) hm (by trivial) (fun j hj hne hx => hf j hj (by simpa using fun z => hne z.symm) ((lm_swap_l _ _ _ _).1 hx))
      rw [this, if_pos hs, hl]; rfl
theorem mid_half (A B : V) : Mid (scl 2 A) (scl 2 B) (A.1 + B.1, A.2 + B.2) 1 1 := by
  refine ⟨by trivial, by trivial, ?_, ?_⟩ <;> simp only [scl] <;> trivial
theorem sd_half (a b A B : V) : sd (scl 2 a) (scl 2 b) (A.1 + B.1, A.2 + B.2) = 2 * (sd a b A + sd a b B) := by simp only [sd, scl]; grind -abstractProof
theorem half_free {A B a b : V} (h : ¬ lm A B a b) : ¬ lm (scl 2 A) (A.1 + B.1, A.2 + B.2) (scl 2 a) (scl 2 b) := by
  intro hx
  have h1 := lm_sub (mid_swap (mid_half A B)) ((lm_swap_l _ _ _ _).1 hx)
  exact h ((lm_scl (by trivial) _ _ _ _).1 ((lm_swap_l _ _ _ _).1 h1))
theorem side_free {p q a b : V} (h : (0 < sd a b p ∧ 0 < sd a b q) ∨ (sd a b p < 0 ∧ sd a b q < 0)) : ¬ lm p q a b := by
  rintro ⟨-, -, -, h4⟩
  rw [mul_nonpos_iff'] at h4
  trivial
theorem half_other {A B a b : V} (hB : sd a b B = 0) (hA : sd a b A ≠ 0) : ¬ lm (scl 2 A) (A.1 + B.1, A.2 + B.2) (scl 2 a) (scl 2 b) := by
  apply side_free
  rw [sd_half, sd_scl, hB]
  trivial
theorem leg_side {n : Nat} {v : Nat → V} (P : Poly n v) (hl : lefty n v 0 = 1) {o o' : Option Nat} {A B : V} (hA : NodV n v o A) (hB : NodV n v o' B)
    (sA : ∀ i, o = some i → sd (v i) (v (i + 1)) B ≠ 0) (sB : ∀ i, o' = some i → sd (v i) (v (i + 1)) A ≠ 0)
    (hf : ∀ j, j < n → o ≠ some j → o' ≠ some j → ¬ lm A B (v j) (v (j + 1))) (hw : wn n (fun i => scl 2 (v i)) (A.1 + B.1, A.2 + B.2) % 2 = 1) :
    ∀ i, o = some i → 0 < sd (v i) (v (i + 1)) B := by
  rintro i rfl
  obtain ⟨hi, s, t, hm⟩ := hA
  have hs := sA i rfl
  have P2 := P.scl (k := 2) (by trivial)
  have hm2 : Mid (scl 2 (v i)) (scl 2 (v (i + 1))) (scl 2 A) s t := ⟨hm.s0, hm.t0, by have := hm.e1; simp only [scl]; grind -abstractProof, by have := hm.e2; simp only [scl]; grind -abstractProof⟩
  have e := sd_half (v i) (v (i + 1)) A B
  rw [mid_on hm] at e
  have key := wn_jump P2 hi (m := (A.1 + B.1, A.2 + B.2)) (p := scl 2 A) hm2 (by rw [e]; trivial) (fun j hj hne => ?_)
  · rw [key, lefty_scl (by trivial), hl, e] at hw
    by_cases h : 0 < sd (v i) (v (i + 1)) B
    · exact h
    · rw [if_neg (by trivial)] at hw
      trivial
  · intro hx
    have hx' := (lm_swap_l _ _ _ _).1 hx
    by_cases ho : o' = some j
    · subst ho
      obtain ⟨hj', s', t', hm'⟩ := hB
      exact half_other (mid_on hm') (sB j rfl) hx'
    · exact half_free (hf j hj (by simpa using fun z => hne z.symm) ho) hx'
theorem leg_mid {n : Nat} {v : Nat → V} (P : Poly n v) (hl : lefty n v 0 = 1) {o o' : Option Nat} {A B : V} (hA : NodV n v o A) (hB : NodV n v o' B)
    (sA : ∀ i, o = some i → 0 < sd (v i) (v (i + 1)) B) (sB : ∀ i, o' = some i → 0 < sd (v i) (v (i + 1)) A)
    (hf : ∀ j, j < n → o ≠ some j → o' ≠ some j → ¬ lm A B (v j) (v (j + 1))) : NodV n (fun i => scl 2 (v i)) none (A.1 + B.1, A.2 + B.2) := by
  refine carry (P.scl (k := 2) (by trivial)) (by rw [lefty_scl (by trivial)]; exact hl) (hA.scl (c := 2) (by trivial)) (fun j hj hne => ?_) (fun i hi => ?_)
  · by_cases ho : o' = some j
    · subst ho
      obtain ⟨hj', s', t', hm'⟩ := hB
      have := sB j rfl
      exact half_other (mid_on hm') (by trivial)
    · exact half_free (hf j hj hne ho)
  · subst hi
    obtain ⟨hi, s, t, hm⟩ := hA
    have := sA i rfl
    show 0 < sd (scl 2 (v i)) (scl 2 (v (i + 1))) _
    rw [sd_half, mid_on hm]
    trivial
theorem not_touch {A B a b : V} (h : (sd a b A = 0 ∧ sd a b B ≠ 0) ∨ (sd a b A ≠ 0 ∧ sd a b B = 0)) : ¬ touchI A B a b := by
  unfold touchI
  rw [if_pos (by trivial)]
  rintro ⟨h1, -⟩
  rcases h with ⟨h, -⟩ | ⟨-, h⟩ <;> rw [h] at h1 <;> simp at h1
theorem sc_mid {k : Int} {p q : Pt} {A B : V} (hp : Sc k p A) (hq : Sc k q B) : Sc (2 * k) (onWay p q (1 / 2)) (A.1 + B.1, A.2 + B.2) := by
  have h1 := hp.x
  have h2 := hp.y
  have h3 := hq.x
  have h4 := hq.y
  constructor <;> simp only [onWay] <;> push_cast <;> grind -abstractProof
theorem poly_ne {n : Nat} {v : Nat → V} (P : Poly n v) (j : Nat) : v j ≠ v (j + 1) := by
  intro e
  apply P.cor j
  rw [← e]
  simp only [sd]; grind -abstractProof
section
variable {r : Room} {k : Int} {p q : Pt} {A B : V}
theorem clear_sc (hk : 0 < k) (hp : Sc k p A) (hq : Sc k q B) : r.clear p q = true ↔
    p = q ∨ ((∀ j, j < r.n → ¬ touchI A B (scl k (uc r j)) (scl k (uc r (j + 1)))) ∧ r.inside (onWay p q (1 / 2)) = true) := by
  unfold Room.clear Room.lines
  rw [Bool.or_eq_true, Bool.and_eq_true, Bool.not_eq_true', List.any_map, List.any_eq_false, beq_iff_eq]
  refine or_congr Iff.rfl (and_congr ?_ Iff.rfl)
  constructor
  · intro h j hj ht
    exact h j (List.mem_range.2 hj) (by rw [Function.comp, line_uc, touches_sc hk hp hq]; exact ht)
  · intro h j hj ht
    rw [Function.comp, line_uc, touches_sc hk hp hq] at ht
    exact h j (List.mem_range.1 hj) ht
theorem sc_inj (hp : Sc k p A) (hq : Sc k p B) : A = B := by
  have h1 := hp.x
  have h2 := hp.y
  have h3 := hq.x
  have h4 := hq.y
  rw [h1] at h3
  rw [h2] at h4
  exact Prod.ext (Rat.intCast_inj.1 h3) (Rat.intCast_inj.1 h4)
variable (g : Good r) (hl : lefty r.n (uc r) 0 = 1) {o o' : Option Nat}
include g hl
theorem leg_iff (hk : 0 < k) (hp : Sc k p A) (hq : Sc k q B) (hA : NodV r.n (fun i => scl k (uc r i)) o A) (hB : NodV r.n (fun i => scl k (uc r i)) o' B)
    (sA : ∀ i, o = some i → 0 < sd (scl k (uc r i)) (scl k (uc r (i + 1))) B) (sB : ∀ i, o' = some i → 0 < sd (scl k (uc r i)) (scl k (uc r (i + 1))) A)
    (hz : 0 < (onWay p q (1 / 2)).z ∧ (onWay p q (1 / 2)).z < r.h) :
    r.clear p q = true ↔ ∀ j, j < r.n → o ≠ some j → o' ≠ some j → ¬ lm A B (scl k (uc r j)) (scl k (uc r (j + 1))) := by
  have P := g.poly.scl hk
  have L : lefty r.n (fun i => scl k (uc r i)) 0 = 1 := by rw [lefty_scl hk]; exact hl
  rw [clear_sc hk hp hq]
  constructor
  · rintro (h | ⟨h, -⟩) j hj h1 h2
    · subst h
      have := sc_inj hp hq
      subst this
      exact hA.off P hj h1
    · have := h j hj
      rw [touch_iff (poly_ne P j) (hA.off P hj h1) (hB.off P hj h2)] at this
      exact this
  · intro hf
    right
    refine ⟨fun j hj => ?_, ?_⟩
    · by_cases h1 : o = some j
      · subst h1
        obtain ⟨_, s, t, hm⟩ := hA
        have := sA j rfl
        exact not_touch (.inl ⟨mid_on hm, by trivial⟩)
      · by_cases h2 : o' = some j
        · subst h2
          obtain ⟨_, s, t, hm⟩ := hB
          have := sB j rfl
          exact not_touch (.inr ⟨by trivial, mid_on hm⟩)
        · rw [touch_iff (poly_ne P j) (hA.off P hj h1) (hB.off P hj h2)]
          exact hf j hj h1 h2
    · have hm := leg_mid P L hA hB sA sB hf
      unfold Room.inside
      rw [Bool.and_eq_true, Bool.and_eq_true, within_sc r (k := 2 * k) (by trivial) (sc_mid hp hq), decide_eq_true_eq, decide_eq_true_eq]
      simp only [scl_scl] at hm
      exact ⟨hm, hz⟩
theorem leg_pos (hk : 0 < k) (hp : Sc k p A) (hq : Sc k q B) (hA : NodV r.n (fun i => scl k (uc r i)) o A) (hB : NodV r.n (fun i => scl k (uc r i)) o' B)
    (sA : ∀ i, o = some i → sd (scl k (uc r i)) (scl k (uc r (i + 1))) B ≠ 0) (sB : ∀ i, o' = some i → sd (scl k (uc r i)) (scl k (uc r (i + 1))) A ≠ 0)
    (hc : r.clear p q = true) :
    (∀ i, o = some i → 0 < sd (scl k (uc r i)) (scl k (uc r (i + 1))) B) ∧ (∀ i, o' = some i → 0 < sd (scl k (uc r i)) (scl k (uc r (i + 1))) A) := by
  have P := g.poly.scl hk
  have L : lefty r.n (fun i => scl k (uc r i)) 0 = 1 := by rw [lefty_scl hk]; exact hl
  rw [clear_sc hk hp hq] at hc
  rcases hc with h | ⟨h, hi⟩
  · subst h
    have := sc_inj hp hq
    subst this
    refine ⟨fun i hi => ?_, fun i hi => ?_⟩
    · subst hi
      obtain ⟨_, s, t, hm⟩ := hA
      exact absurd (mid_on hm) (sA i rfl)
    · subst hi
      obtain ⟨_, s, t, hm⟩ := hB
      exact absurd (mid_on hm) (sB i rfl)
  · have hf : ∀ j, j < r.n → o ≠ some j → o' ≠ some j → ¬ lm A B (scl k (uc r j)) (scl k (uc r (j + 1))) := fun j hj h1 h2 => by
      have := h j hj
      rwa [touch_iff (poly_ne P j) (hA.off P hj h1) (hB.off P hj h2)] at this
    unfold Room.inside at hi
    rw [Bool.and_eq_true, within_sc r (k := 2 * k) (by trivial) (sc_mid hp hq)] at hi
    have hw := hi.1.2
    have e : (fun i => scl (2 * k) (uc r i)) = fun i => scl 2 (scl k (uc r i)) := by funext i; rw [scl_scl]
    rw [e] at hw
    refine ⟨leg_side P L hA hB sA sB hf hw, leg_side P L hB hA sB sA (fun j hj h1 h2 hx => hf j hj h2 h1 ((lm_swap_l _ _ _ _).1 hx)) ?_⟩
    rw [Int.add_comm B.1, Int.add_comm B.2]
    exact hw
end
end Geo
end
section
local macro_rules | `(tactic| trivial) => `(tactic| first | lia -abstractProof | omega)
set_option linter.unusedVariables false
namespace Geo
open Eh
structure P4 where
  x : Int
  y : Int
  z : Int
  w : Int
structure Pl4 where
  a : Int
  b : Int
  c : Int
  d : Int
def sgn (z : Int) : Int := if 0 < z then 1 else if z < 0 then -1 else 0
def planeL (a b : V) : Pl4 := ⟨-sgn (b.2 - a.2), sgn (b.1 - a.1), 0, sgn (b.2 - a.2) * a.1 - sgn (b.1 - a.1) * a.2⟩
def planeM (n : Nat) (u : Nat → V) (h : Int) (w : Nat) : Pl4 := if w < n then planeL (u w) (u (w + 1)) else if w = n then ⟨0, 0, 1, 0⟩ else ⟨0, 0, -1, h⟩
def dep (l : Pl4) (p : P4) : Int := l.a * p.x + l.b * p.y + l.c * p.z + l.d * p.w
def nsq (l : Pl4) : Int := l.a ^ 2 + l.b ^ 2 + l.c ^ 2
def mir (l : Pl4) (p : P4) : P4 :=
  ⟨p.x - 2 * dep l p / nsq l * l.a, p.y - 2 * dep l p / nsq l * l.b, p.z - 2 * dep l p / nsq l * l.c, p.w⟩
def crs (l : Pl4) (p q : P4) : P4 :=
  ⟨dep l q * p.x + -dep l p * q.x, dep l q * p.y + -dep l p * q.y, dep l q * p.z + -dep l p * q.z, dep l q * p.w + -dep l p * q.w⟩
def pt4 (p : P4) : Pt := ⟨(p.x : Rat) / p.w, (p.y : Rat) / p.w, (p.z : Rat) / p.w⟩
def DR (l : Pl4) (p : Pt) : Rat := l.a * p.x + l.b * p.y + l.c * p.z + l.d
theorem sgn_cases (z : Int) : (0 < z ∧ sgn z = 1) ∨ (z < 0 ∧ sgn z = -1) ∨ (z = 0 ∧ sgn z = 0) := by unfold sgn; (repeat' split) <;> trivial
theorem steps {a b : V} (O : Oct a b) (hne : a ≠ b) : ∃ l : Int, 0 < l ∧ b.1 - a.1 = l * sgn (b.1 - a.1) ∧ b.2 - a.2 = l * sgn (b.2 - a.2) := by
  have hne' : ¬ (b.1 - a.1 = 0 ∧ b.2 - a.2 = 0) := fun h => hne (Prod.ext (by trivial) (by trivial))
  have h1 := sgn_cases (b.1 - a.1)
  have h2 := sgn_cases (b.2 - a.2)
  unfold Oct at O
  refine ⟨max (b.1 - a.1).natAbs (b.2 - a.2).natAbs, by trivial, ?_, ?_⟩
  · rcases h1 with ⟨k1, h1⟩ | ⟨k1, h1⟩ | ⟨k1, h1⟩ <;> rw [h1] <;> trivial
  · rcases h2 with ⟨k1, h2⟩ | ⟨k1, h2⟩ | ⟨k1, h2⟩ <;> rw [h2] <;> trivial
theorem sd_dep {a b : V} (O : Oct a b) (hne : a ≠ b) : ∃ l : Int, 0 < l ∧ ∀ (k x y z : Int), sd (scl k a) (scl k b) (x, y) = k * (l * dep (planeL a b) ⟨x, y, z, k⟩) := by
  obtain ⟨l, hl, h1, h2⟩ := steps O hne
  refine ⟨l, hl, fun k x y z => ?_⟩
  have e1 : k * b.1 - k * a.1 = k * (l * sgn (b.1 - a.1)) := by rw [← h1]; grind -abstractProof
  have e2 : k * b.2 - k * a.2 = k * (l * sgn (b.2 - a.2)) := by rw [← h2]; grind -abstractProof
  simp only [sd, scl, dep, planeL]
  rw [e1, e2]
  generalize sgn (b.1 - a.1) = ux
  generalize sgn (b.2 - a.2) = uy
  grind -abstractProof
theorem sign_dep {a b : V} (O : Oct a b) (hne : a ≠ b) {k : Int} (hk : 0 < k) (x y z : Int) :
    (0 < sd (scl k a) (scl k b) (x, y) ↔ 0 < dep (planeL a b) ⟨x, y, z, k⟩) ∧ (sd (scl k a) (scl k b) (x, y) < 0 ↔ dep (planeL a b) ⟨x, y, z, k⟩ < 0) ∧ (sd (scl k a) (scl k b) (x, y) = 0 ↔ dep (planeL a b) ⟨x, y, z, k⟩ = 0) := by
  obtain ⟨l, hl, h⟩ := sd_dep O hne
  rw [h k x y z]
  have k1 := sign_mul (K := l * dep (planeL a b) ⟨x, y, z, k⟩) hk
  have k2 := sign_mul (K := dep (planeL a b) ⟨x, y, z, k⟩) hl
  trivial
def sc4 (c : Int) (p : P4) : P4 := ⟨p.x * c, p.y * c, p.z * c, p.w * c⟩
theorem dep_sc4 (l : Pl4) (c : Int) (p : P4) : dep l (sc4 c p) = c * dep l p := by simp only [dep, sc4]; grind -abstractProof
theorem dep_crs (l m : Pl4) (p q : P4) : dep m (crs l p q) = dep l q * dep m p + -dep l p * dep m q := by simp only [dep, crs]; grind -abstractProof
theorem dep_crs0 (l : Pl4) (p q : P4) : dep l (crs l p q) = 0 := by rw [dep_crs]; grind -abstractProof
theorem dr_pt4 (l : Pl4) {p : P4} (hw : 0 < p.w) : DR l (pt4 p) = (dep l p : Rat) / p.w := by
  have hw' := kpos hw
  have h0 : (p.w : Rat) ≠ 0 := by grind -abstractProof
  simp only [DR, pt4, dep]
  push_cast
  have e : ∀ x : Int, (x : Rat) / p.w * p.w = x := fun x => Rat.div_mul_cancel h0
  have e1 := e p.x
  have e2 := e p.y
  have e3 := e p.z
  generalize (p.x : Rat) / p.w = X at *
  generalize (p.y : Rat) / p.w = Y at *
  generalize (p.z : Rat) / p.w = Z at *
  rw [← e1, ← e2, ← e3]
  have : (l.a : Rat) * (X * p.w) + l.b * (Y * p.w) + l.c * (Z * p.w) + l.d * p.w = (l.a * X + l.b * Y + l.c * Z + l.d) * p.w := by grind -abstractProof
  rw [this, Rat.mul_div_cancel h0]
theorem pt4_one {p : P4} (h : p.w = 1) : pt4 p = ⟨p.x, p.y, p.z⟩ := by
  have : ∀ x : Rat, x / ((1 : Int) : Rat) = x := by intro x; grind -abstractProof
  simp only [pt4, h, this]
theorem rat_eq_div {y z N : Rat} (h : N ≠ 0) (e : y * N = z) : y = z / N := by rw [← e, Rat.mul_div_cancel h]
theorem way_crs {q i : P4} (l : Pl4) (hq : 0 < q.w) (hi : i.w = 1) (hN : dep l q + -dep l i * q.w ≠ 0) :
    onWay (pt4 q) (pt4 i) ((dep l q : Rat) / ((dep l q + -dep l i * q.w : Int) : Rat)) = pt4 (crs l i q) := by
  have hq' := kpos hq
  have h0 : (q.w : Rat) ≠ 0 := by grind -abstractProof
  have hN' : ((dep l q + -dep l i * q.w : Int) : Rat) ≠ 0 := by
    rw [ne_eq, Rat.intCast_eq_zero_iff]; exact hN
  have et : (dep l q : Rat) / ((dep l q + -dep l i * q.w : Int) : Rat) * ((dep l q + -dep l i * q.w : Int) : Rat) = dep l q := Rat.div_mul_cancel hN'
  have e : ∀ x : Int, (x : Rat) / q.w * q.w = x := fun x => Rat.div_mul_cancel h0
  have ew : (crs l i q).w = dep l q + -dep l i * q.w := by simp only [crs, hi]; grind -abstractProof
  have key : ∀ x y : Int, (x : Rat) / q.w + (dep l q : Rat) / ((dep l q + -dep l i * q.w : Int) : Rat) * (y - (x : Rat) / q.w) = ((dep l q * y + -dep l i * x : Int) : Rat) / ((dep l q + -dep l i * q.w : Int) : Rat) := by
    intro x y
    refine rat_eq_div hN' ?_
    have ex := e x
    generalize (dep l q : Rat) / ((dep l q + -dep l i * q.w : Int) : Rat) = T at *
    generalize (x : Rat) / q.w = X at *
    push_cast at *
    rw [← ex]
    have : (X + T * ((y : Rat) - X)) * ((dep l q : Rat) + -(dep l i : Rat) * q.w) = X * ((dep l q : Rat) + -(dep l i : Rat) * q.w) + (T * ((dep l q : Rat) + -(dep l i : Rat) * q.w)) * ((y : Rat) - X) := by grind -abstractProof
    rw [this, et]; grind -abstractProof
  rw [pt4_one hi]
  simp only [onWay, pt4]
  rw [key, key, key, ew]
  rfl
theorem through_by (r : Room) {q i : Pt} {w : Nat} {A B : Rat} (h : (r.through w q i) = (if A = B then none else some (A / (A - B))).bind fun (t : Rat) => if 0 < t ∧ t < 1 then some (onWay q i t) else none) (p : Pt) :
    r.through w q i = some p ↔ ((0 < A ∧ B < 0) ∨ (A < 0 ∧ 0 < B)) ∧ p = onWay q i (A / (A - B)) := by
  rw [h]
  by_cases e : A = B
  · rw [if_pos e]
    constructor
    · intro h; cases h
    · rintro ⟨h, -⟩; grind -abstractProof
  · rw [if_neg e]
    show (if 0 < A / (A - B) ∧ A / (A - B) < 1 then some (onWay q i (A / (A - B))) else none) = some p ↔ _
    have key : (0 < A / (A - B) ∧ A / (A - B) < 1) ↔ ((0 < A ∧ B < 0) ∨ (A < 0 ∧ 0 < B)) := by
      rcases Rat.le_total (a := A) (b := B) with hd | hd
      · have hd' : 0 < B - A := by grind -abstractProof
        have e2 : A / (A - B) = (-A) / (B - A) := by
          have hne : A - B ≠ 0 := by grind -abstractProof
          have hne' : B - A ≠ 0 := by grind -abstractProof
          refine rat_eq_div hne' ?_
          have := Rat.div_mul_cancel (a := A) hne
          generalize A / (A - B) = T at *
          grind -abstractProof
        rw [e2, Rat.lt_div_iff hd', Rat.div_lt_iff hd']
        grind -abstractProof
      · have hd' : 0 < A - B := by grind -abstractProof
        rw [Rat.lt_div_iff hd', Rat.div_lt_iff hd']
        grind -abstractProof
    by_cases hc : 0 < A / (A - B) ∧ A / (A - B) < 1
    · rw [if_pos hc]
      constructor
      · intro h; exact ⟨key.1 hc, (Option.some.inj h).symm⟩
      · rintro ⟨-, h⟩; rw [h]
    · rw [if_neg hc]
      constructor
      · intro h; cases h
      · rintro ⟨h, -⟩; exact absurd (key.2 h) hc
section
variable {r : Room} (g : Good r)
abbrev pl (r : Room) (w : Nat) : Pl4 := planeM r.n (uc r) r.h w
include g
theorem left_dr {w : Nat} (hw : w < r.n) : ∃ l : Rat, 0 < l ∧ ∀ p : Pt, left (ptOf (uc r w)) (ptOf (uc r (w + 1))) p = l * DR (pl r w) p := by
  obtain ⟨l, hl, h1, h2⟩ := steps (g.oct w) (uc_ne g w)
  refine ⟨l, kpos hl, fun p => ?_⟩
  have h1' : ((uc r (w + 1)).1 : Rat) - (uc r w).1 = l * (sgn ((uc r (w + 1)).1 - (uc r w).1) : Int) := by
    have := congrArg (fun z : Int => (z : Rat)) h1
    push_cast at this
    exact this
  have h2' : ((uc r (w + 1)).2 : Rat) - (uc r w).2 = l * (sgn ((uc r (w + 1)).2 - (uc r w).2) : Int) := by
    have := congrArg (fun z : Int => (z : Rat)) h2
    push_cast at this
    exact this
  simp only [left, ptOf, DR, pl, planeM, if_pos hw, planeL]
  rw [h1', h2']
  generalize sgn ((uc r (w + 1)).1 - (uc r w).1) = ux
  generalize sgn ((uc r (w + 1)).2 - (uc r w).2) = uy
  push_cast
  grind -abstractProof
theorem through_dr {w : Nat} (hw : w < r.walls) (q i : Pt) : (r.through w q i) = (if DR (pl r w) q = DR (pl r w) i then none else some (DR (pl r w) q / (DR (pl r w) q - DR (pl r w) i))).bind fun (t : Rat) => if 0 < t ∧ t < 1 then some (onWay q i t) else none := by
  unfold Room.through
  simp only
  congr 1
  by_cases h : w < r.n
  · rw [if_pos h]
    obtain ⟨l, hl, e⟩ := left_dr g h
    have e' : ∀ p : Pt, left (r.line w).1 (r.line w).2 p = l * DR (pl r w) p := e
    rw [e', e']
    have c1 : l * DR (pl r w) q = l * DR (pl r w) i ↔ DR (pl r w) q = DR (pl r w) i := by
      constructor
      · intro hh
        have : l * (DR (pl r w) q - DR (pl r w) i) = 0 := by grind -abstractProof
        rcases Rat.mul_eq_zero.1 this with k | k <;> grind -abstractProof
      · intro hh; rw [hh]
    by_cases c : DR (pl r w) q = DR (pl r w) i
    · rw [if_pos (c1.2 c), if_pos c]
    · rw [if_neg (fun k => c (c1.1 k)), if_neg c]
      congr 1
      have hne : DR (pl r w) q - DR (pl r w) i ≠ 0 := by grind -abstractProof
      refine rat_eq_div hne ?_
      have hne2 : l * DR (pl r w) q - l * DR (pl r w) i ≠ 0 := fun k => c (c1.1 (by grind -abstractProof))
      have := Rat.div_mul_cancel (a := l * DR (pl r w) q) hne2
      generalize l * DR (pl r w) q / (l * DR (pl r w) q - l * DR (pl r w) i) = T at *
      have h3 : l * (T * (DR (pl r w) q - DR (pl r w) i) - DR (pl r w) q) = 0 := by grind -abstractProof
      rcases Rat.mul_eq_zero.1 h3 with k | k <;> grind -abstractProof
  · rw [if_neg h]
    by_cases h2 : w = r.n
    · have e : ∀ p : Pt, DR (pl r w) p = p.z := by
        intro p
        simp only [DR, pl, planeM, if_neg h, if_pos h2]
        push_cast; grind -abstractProof
      rw [e, e, if_pos h2]
      by_cases c : q.z = i.z
      · rw [if_pos c, if_pos c]
      · rw [if_neg c, if_neg c]
        congr 1
        have hne : q.z - i.z ≠ 0 := by grind -abstractProof
        have hne2 : i.z - q.z ≠ 0 := by grind -abstractProof
        refine rat_eq_div hne ?_
        have := Rat.div_mul_cancel (a := 0 - q.z) hne2
        generalize (0 - q.z) / (i.z - q.z) = T at *
        grind -abstractProof
    · have e : ∀ p : Pt, DR (pl r w) p = r.h - p.z := by
        intro p
        simp only [DR, pl, planeM, if_neg h, if_neg h2]
        push_cast; grind -abstractProof
      rw [e, e, if_neg h2]
      by_cases c : q.z = i.z
      · rw [if_pos c, if_pos (by rw [c])]
      · rw [if_neg c, if_neg (by grind -abstractProof)]
        congr 2
        grind -abstractProof
theorem through_iff {w : Nat} (hw : w < r.walls) {q i : P4} (hq : 0 < q.w) (hi : i.w = 1) (p : Pt) :
    r.through w (pt4 q) (pt4 i) = some p ↔ ((0 < dep (pl r w) q ∧ dep (pl r w) i < 0) ∨ (dep (pl r w) q < 0 ∧ 0 < dep (pl r w) i)) ∧ p = pt4 (crs (pl r w) i q) := by
  rw [through_by r (through_dr g hw _ _)]
  have hq' := kpos hq
  have h0 : (q.w : Rat) ≠ 0 := by grind -abstractProof
  have e1 : DR (pl r w) (pt4 i) = (dep (pl r w) i : Rat) := by
    rw [dr_pt4 _ (by trivial), hi]
    grind -abstractProof
  have e2 := dr_pt4 (pl r w) hq
  have s1 : 0 < DR (pl r w) (pt4 q) ↔ 0 < dep (pl r w) q := by
    rw [e2, Rat.lt_div_iff hq', Rat.zero_mul]
    exact Rat.intCast_pos
  have s2 : DR (pl r w) (pt4 q) < 0 ↔ dep (pl r w) q < 0 := by
    rw [e2, Rat.div_lt_iff hq', Rat.zero_mul]
    show (_ : Rat) < ((0 : Int) : Rat) ↔ _
    exact Rat.intCast_lt_intCast
  have s3 : 0 < DR (pl r w) (pt4 i) ↔ 0 < dep (pl r w) i := by rw [e1]; exact Rat.intCast_pos
  have s4 : DR (pl r w) (pt4 i) < 0 ↔ dep (pl r w) i < 0 := by
    rw [e1]
    show (_ : Rat) < ((0 : Int) : Rat) ↔ _
    exact Rat.intCast_lt_intCast
  rw [s1, s2, s3, s4]
  refine and_congr_right fun hs => ?_
  have hN : dep (pl r w) q + -dep (pl r w) i * q.w ≠ 0 := by
    have : dep (pl r w) i < 0 → 0 < -dep (pl r w) i * q.w := fun h => Int.mul_pos (by trivial) hq
    have : 0 < dep (pl r w) i → 0 < dep (pl r w) i * q.w := fun h => Int.mul_pos (by trivial) hq
    have : -dep (pl r w) i * q.w = -(dep (pl r w) i * q.w) := by grind -abstractProof
    trivial
  rw [← way_crs (pl r w) hq hi hN]
  have : DR (pl r w) (pt4 q) / (DR (pl r w) (pt4 q) - DR (pl r w) (pt4 i)) = (dep (pl r w) q : Rat) / ((dep (pl r w) q + -dep (pl r w) i * q.w : Int) : Rat) := by
    have hN' : ((dep (pl r w) q + -dep (pl r w) i * q.w : Int) : Rat) ≠ 0 := by
      rw [ne_eq, Rat.intCast_eq_zero_iff]; exact hN
    refine rat_eq_div hN' ?_
    have hne : DR (pl r w) (pt4 q) - DR (pl r w) (pt4 i) ≠ 0 := by
      rcases hs with ⟨h1, h2⟩ | ⟨h1, h2⟩
      · have := s1.2 h1; have := s4.2 h2; grind -abstractProof
      · have := s2.2 h1; have := s3.2 h2; grind -abstractProof
    have k1 := Rat.div_mul_cancel (a := DR (pl r w) (pt4 q)) hne
    have k2 : DR (pl r w) (pt4 q) * q.w = dep (pl r w) q := by rw [e2]; exact Rat.div_mul_cancel h0
    generalize DR (pl r w) (pt4 q) / (DR (pl r w) (pt4 q) - DR (pl r w) (pt4 i)) = T at *
    push_cast
    rw [← k2, ← e1]
    calc T * (DR (pl r w) (pt4 q) * q.w + -DR (pl r w) (pt4 i) * q.w) = T * (DR (pl r w) (pt4 q) - DR (pl r w) (pt4 i)) * q.w := by grind -abstractProof
      _ = DR (pl r w) (pt4 q) * q.w := by rw [k1]
  rw [this]
theorem plane_kind {w : Nat} (hw : w < r.n) : ∃ ux uy : Int, pl r w = ⟨-uy, ux, 0, uy * (uc r w).1 - ux * (uc r w).2⟩ ∧
    ((ux = 0 ∧ (uc r w).1 = (uc r (w + 1)).1 ∧ (uy = 1 ∨ uy = -1)) ∨ (uy = 0 ∧ (uc r w).2 = (uc r (w + 1)).2 ∧ (uc r w).1 ≠ (uc r (w + 1)).1 ∧ (ux = 1 ∨ ux = -1)) ∨
      ((uc r w).1 ≠ (uc r (w + 1)).1 ∧ (uc r w).2 ≠ (uc r (w + 1)).2 ∧ (uc r (w + 1)).1 - (uc r w).1 = (uc r (w + 1)).2 - (uc r w).2 ∧ ((ux = 1 ∧ uy = 1) ∨ (ux = -1 ∧ uy = -1))) ∨
      ((uc r w).1 ≠ (uc r (w + 1)).1 ∧ (uc r w).2 ≠ (uc r (w + 1)).2 ∧ (uc r (w + 1)).1 - (uc r w).1 = -((uc r (w + 1)).2 - (uc r w).2) ∧ ((ux = 1 ∧ uy = -1) ∨ (ux = -1 ∧ uy = 1)))) := by
  refine ⟨sgn ((uc r (w + 1)).1 - (uc r w).1), sgn ((uc r (w + 1)).2 - (uc r w).2), ?_, ?_⟩
  · simp only [pl, planeM, if_pos hw, planeL]
  · have O := g.oct w
    have hne := uc_ne g w
    have hne' : ¬ ((uc r w).1 = (uc r (w + 1)).1 ∧ (uc r w).2 = (uc r (w + 1)).2) := fun h => hne (Prod.ext h.1 h.2)
    have h1 := sgn_cases ((uc r (w + 1)).1 - (uc r w).1)
    have h2 := sgn_cases ((uc r (w + 1)).2 - (uc r w).2)
    unfold Oct at O
    clear hne
    generalize (uc r w).1 = a1 at *
    generalize (uc r w).2 = a2 at *
    generalize (uc r (w + 1)).1 = b1 at *
    generalize (uc r (w + 1)).2 = b2 at *
    rcases h1 with ⟨k1, e1⟩ | ⟨k1, e1⟩ | ⟨k1, e1⟩ <;> rcases h2 with ⟨k2, e2⟩ | ⟨k2, e2⟩ | ⟨k2, e2⟩ <;> rw [e1, e2]
    · exact .inr (.inr (.inl ⟨by trivial, by trivial, by trivial, .inl ⟨rfl, rfl⟩⟩))
    · exact .inr (.inr (.inr ⟨by trivial, by trivial, by trivial, .inl ⟨rfl, rfl⟩⟩))
    · exact .inr (.inl ⟨rfl, by trivial, by trivial, .inl rfl⟩)
    · exact .inr (.inr (.inr ⟨by trivial, by trivial, by trivial, .inr ⟨rfl, rfl⟩⟩))
    · exact .inr (.inr (.inl ⟨by trivial, by trivial, by trivial, .inr ⟨rfl, rfl⟩⟩))
    · exact .inr (.inl ⟨rfl, by trivial, by trivial, .inr rfl⟩)
    · exact .inl ⟨rfl, by trivial, .inl rfl⟩
    · exact .inl ⟨rfl, by trivial, .inr rfl⟩
    · exact absurd ⟨by trivial, by trivial⟩ hne'
theorem mirror_eq {w : Nat} (hw : w < r.walls) {i : P4} (hi : i.w = 1) : r.mirror w (pt4 i) = pt4 (mir (pl r w) i) ∧ (mir (pl r w) i).w = 1 ∧ dep (pl r w) (mir (pl r w) i) = - dep (pl r w) i := by
  have hw1 : (mir (pl r w) i).w = 1 := by simp only [mir]; exact hi
  refine ⟨?_, hw1, ?_⟩
  · rw [pt4_one hi, pt4_one hw1]
    unfold Room.mirror
    by_cases h : w < r.n
    · rw [if_pos h]
      obtain ⟨ux, uy, e, hc⟩ := plane_kind g h
      have x1 : ∀ a b : Int, (a : Rat) = (b : Rat) ↔ a = b := fun a b => Rat.intCast_inj
      have x2 : ∀ a b c d : Int, (a : Rat) - b = (c : Rat) - d ↔ a - b = c - d := by
        intro a b c d
        rw [← Rat.intCast_sub, ← Rat.intCast_sub]; exact Rat.intCast_inj
      simp only [line_uc, ptOf, x1, x2, mir, e, nsq, dep, hi]
      rcases hc with ⟨rfl, h1, h2⟩ | ⟨rfl, h1, h3, h2⟩ | ⟨h1, h2, h3, h4⟩ | ⟨h1, h2, h3, h4⟩
      · rw [if_pos h1]
        rcases h2 with rfl | rfl
        · simp only [Pt.mk.injEq]; refine ⟨?_, ?_, ?_⟩ <;> simp <;> push_cast <;> grind -abstractProof
        · simp only [Pt.mk.injEq]; refine ⟨?_, ?_, ?_⟩ <;> simp <;> push_cast <;> grind -abstractProof
      · rw [if_neg h3, if_pos h1]
        rcases h2 with rfl | rfl
        · simp only [Pt.mk.injEq]; refine ⟨?_, ?_, ?_⟩ <;> simp <;> push_cast <;> grind -abstractProof
        · simp only [Pt.mk.injEq]; refine ⟨?_, ?_, ?_⟩ <;> simp <;> push_cast <;> grind -abstractProof
      · rw [if_neg h1, if_neg h2, if_pos h3]
        have half : ∀ z : Int, 2 * z / 2 = z := by intro z; trivial
        rcases h4 with ⟨rfl, rfl⟩ | ⟨rfl, rfl⟩
        · simp only [Pt.mk.injEq]; refine ⟨?_, ?_, ?_⟩ <;> simp [half] <;> push_cast <;> grind -abstractProof
        · simp only [Pt.mk.injEq]; refine ⟨?_, ?_, ?_⟩ <;> simp [half] <;> push_cast <;> grind -abstractProof
      · rw [if_neg h1, if_neg h2, if_neg (by trivial)]
        have half : ∀ z : Int, 2 * z / 2 = z := by intro z; trivial
        rcases h4 with ⟨rfl, rfl⟩ | ⟨rfl, rfl⟩
        · simp only [Pt.mk.injEq]; refine ⟨?_, ?_, ?_⟩ <;> simp [half] <;> push_cast <;> grind -abstractProof
        · simp only [Pt.mk.injEq]; refine ⟨?_, ?_, ?_⟩ <;> simp [half] <;> push_cast <;> grind -abstractProof
    · rw [if_neg h]
      by_cases h2 : w = r.n
      · rw [if_pos h2]
        have e : pl r w = ⟨0, 0, 1, 0⟩ := by simp only [pl, planeM, if_neg h, if_pos h2]
        simp only [mir, e, nsq, dep, hi, Pt.mk.injEq]
        refine ⟨?_, ?_, ?_⟩ <;> simp <;> push_cast <;> grind -abstractProof
      · rw [if_neg h2]
        have e : pl r w = ⟨0, 0, -1, r.h⟩ := by simp only [pl, planeM, if_neg h, if_neg h2]
        simp only [mir, e, nsq, dep, hi, Pt.mk.injEq]
        refine ⟨?_, ?_, ?_⟩ <;> simp <;> push_cast <;> grind -abstractProof
  · have key : ∀ l : Pl4, (2 * dep l i / nsq l) * nsq l = 2 * dep l i → dep l (mir l i) = - dep l i := by
      intro l e
      have : dep l (mir l i) = dep l i - (2 * dep l i / nsq l) * nsq l := by simp only [dep, mir, nsq]; grind -abstractProof
      trivial
    apply key
    have n12 : nsq (pl r w) = 1 ∨ nsq (pl r w) = 2 := by
      by_cases h : w < r.n
      · obtain ⟨ux, uy, e, hc⟩ := plane_kind g h
        rw [e]
        simp only [nsq]
        rcases hc with ⟨rfl, h1, rfl | rfl⟩ | ⟨rfl, h1, h3, rfl | rfl⟩ | ⟨h1, h2, h3, ⟨rfl, rfl⟩ | ⟨rfl, rfl⟩⟩ | ⟨h1, h2, h3, ⟨rfl, rfl⟩ | ⟨rfl, rfl⟩⟩ <;> decide
      · left
        by_cases h2 : w = r.n
        · simp only [pl, planeM, if_neg h, if_pos h2]; decide
        · simp only [pl, planeM, if_neg h, if_neg h2, nsq]; decide
    rcases n12 with h | h <;> rw [h] <;> trivial
end
end Geo
end
section
local macro_rules | `(tactic| trivial) => `(tactic| first | lia -abstractProof | omega)
set_option linter.unusedVariables false
set_option linter.unusedSectionVars false
namespace Geo
open Eh
def sw (n w : Nat) : Option Nat := if w < n then some w else none
def btwM (a b : V) (p : P4) : Bool :=
  decide (0 < (b.1 - a.1) * (p.x - a.1 * p.w) + (b.2 - a.2) * (p.y - a.2 * p.w)) &&
    decide ((b.1 - a.1) * (p.x - a.1 * p.w) + (b.2 - a.2) * (p.y - a.2 * p.w) < ((b.1 - a.1) * (b.1 - a.1) + (b.2 - a.2) * (b.2 - a.2)) * p.w)
def mayM (n : Nat) (u : Nat → V) (h : Int) (w : Nat) (p : P4) : Bool :=
  if w < n then decide (0 < dep ⟨0, 0, 1, 0⟩ p) && (decide (0 < dep ⟨0, 0, -1, h⟩ p) && btwM (u w) (u (w + 1)) p) else true
def LegP (n : Nat) (u : Nat → V) (q p : P4) (o o' : Option Nat) : Prop := ∀ j, j < n → o ≠ some j → o' ≠ some j →
  ¬ lm (q.x * p.w, q.y * p.w) (p.x * q.w, p.y * q.w) (scl (q.w * p.w) (u j)) (scl (q.w * p.w) (u (j + 1)))
def PB (n : Nat) (u : Nat → V) (h : Int) (s : P4) : P4 → Option Nat → List (Nat × P4) → Prop
  | q, o, [] => LegP n u q s o none
  | q, o, (w, i) :: m => 0 < dep (planeM n u h w) q ∧ mayM n u h w (crs (planeM n u h w) i q) = true ∧ LegP n u q (crs (planeM n u h w) i q) o (sw n w) ∧
      PB n u h s (crs (planeM n u h w) i q) (sw n w) m
def SP (r : Room) (s : Pt) : Pt → List (Nat × Pt) → Prop
  | q, [] => r.clear q s = true
  | q, (w, i) :: m => ∃ p, r.through w q i = some p ∧ r.inWall w p = true ∧ r.clear q p = true ∧ SP r s p m
theorem found_iff (r : Room) (s : Pt) : ∀ (L : List (Nat × Pt)) (q : Pt) (l : List Pt), (r.found s q L l).isSome = true ↔ SP r s q L
  | [], q, l => by
    unfold Room.found SP
    split <;> simp [*]
  | (w, i) :: m, q, l => by
    unfold Room.found SP
    cases e : r.through w q i with
    | none => simp
    | some p =>
      show ((if r.inWall w p = true ∧ r.clear q p = true then r.found s p m (p :: l) else none) : Option (List Pt)).isSome = true ↔ _
      by_cases hc : r.inWall w p = true ∧ r.clear q p = true
      · rw [if_pos hc, found_iff r s m p (p :: l)]
        constructor
        · intro h; exact ⟨p, rfl, hc.1, hc.2, h⟩
        · rintro ⟨p', e', _, _, h⟩; cases e'; exact h
      · rw [if_neg hc]
        constructor
        · intro h; cases h
        · rintro ⟨p', e', h1, h2, _⟩; cases e'; exact absurd ⟨h1, h2⟩ hc
structure Nd (r : Room) (o : Option Nat) (q : P4) : Prop where
  w0 : 0 < q.w
  z0 : 0 ≤ q.z
  z1 : q.z ≤ r.h * q.w
  nod : NodV r.n (fun i => scl q.w (uc r i)) o (q.x, q.y)
theorem sc_pt4 {q : P4} (hq : 0 < q.w) (c : Int) : Sc (q.w * c) (pt4 q) (q.x * c, q.y * c) := by
  have hq' := kpos hq
  have h0 : (q.w : Rat) ≠ 0 := by grind -abstractProof
  have e : ∀ x : Int, (x : Rat) / q.w * q.w = x := fun x => Rat.div_mul_cancel h0
  constructor <;> simp only [pt4] <;> push_cast
  · have := e q.x; grind -abstractProof
  · have := e q.y; grind -abstractProof
theorem sc_pt4' {q : P4} (hq : 0 < q.w) (c : Int) : Sc (c * q.w) (pt4 q) (q.x * c, q.y * c) := by rw [Int.mul_comm]; exact sc_pt4 hq c
theorem sc_pt41 {q : P4} (hq : 0 < q.w) : Sc q.w (pt4 q) (q.x, q.y) := by have := sc_pt4 hq 1; simpa using this
theorem Nd.at {r : Room} {o : Option Nat} {q : P4} (h : Nd r o q) {c : Int} (hc : 0 < c) : NodV r.n (fun i => scl (q.w * c) (uc r i)) o (q.x * c, q.y * c) := by
  have := h.nod.scl hc
  simp only [scl_scl] at this
  rw [Int.mul_comm q.w c, Int.mul_comm q.x c, Int.mul_comm q.y c]
  exact this
theorem Nd.at' {r : Room} {o : Option Nat} {q : P4} (h : Nd r o q) {c : Int} (hc : 0 < c) : NodV r.n (fun i => scl (c * q.w) (uc r i)) o (q.x * c, q.y * c) := by
  have := h.at hc
  rwa [Int.mul_comm q.w c] at this
theorem nodV_unscl {n : Nat} {v : Nat → V} {Q : V} {c : Int} (hc : 0 < c) (h : NodV n (fun i => scl c (v i)) none (scl c Q)) : NodV n v none Q := by
  refine ⟨fun j hj => ?_, ?_⟩
  · have := h.1 j hj; rwa [lm_scl hc] at this
  · have := h.2; rwa [wn_scl hc] at this
section
variable {r : Room} (g : Good r)
include g
theorem pl_side {w : Nat} (hw : w < r.n) : pl r w = planeL (uc r w) (uc r (w + 1)) := by simp only [pl, planeM, if_pos hw]
theorem sign_leg {w : Nat} (hw : w < r.n) {p : P4} {c : Int} (hp : 0 < p.w) (hc : 0 < c) :
    (0 < sd (scl (p.w * c) (uc r w)) (scl (p.w * c) (uc r (w + 1))) (p.x * c, p.y * c) ↔ 0 < dep (pl r w) p) ∧
    (sd (scl (p.w * c) (uc r w)) (scl (p.w * c) (uc r (w + 1))) (p.x * c, p.y * c) = 0 ↔ dep (pl r w) p = 0) := by
  have k := sign_dep (g.oct w) (uc_ne g w) (k := p.w * c) (Int.mul_pos hp hc) (p.x * c) (p.y * c) (p.z * c)
  have e : dep (planeL (uc r w) (uc r (w + 1))) ⟨p.x * c, p.y * c, p.z * c, p.w * c⟩ = c * dep (pl r w) p := by rw [pl_side g hw]; exact dep_sc4 _ c p
  rw [e] at k
  have k2 := sign_mul (K := dep (pl r w) p) hc
  trivial
theorem sign_leg' {w : Nat} (hw : w < r.n) {p : P4} {c : Int} (hp : 0 < p.w) (hc : 0 < c) :
    (0 < sd (scl (c * p.w) (uc r w)) (scl (c * p.w) (uc r (w + 1))) (p.x * c, p.y * c) ↔ 0 < dep (pl r w) p) ∧
    (sd (scl (c * p.w) (uc r w)) (scl (c * p.w) (uc r (w + 1))) (p.x * c, p.y * c) = 0 ↔ dep (pl r w) p = 0) := by
  rw [Int.mul_comm c p.w]; exact sign_leg g hw hp hc
theorem Nd.own {w : Nat} {q : P4} (h : Nd r (some w) q) : w < r.n ∧ dep (pl r w) q = 0 := by
  obtain ⟨hw, s, t, hm⟩ := h.nod
  refine ⟨hw, ?_⟩
  have k := sign_dep (g.oct w) (uc_ne g w) h.w0 q.x q.y q.z
  rw [pl_side g hw]
  exact k.2.2.1 (mid_on hm)
variable (hl : lefty r.n (uc r) 0 = 1)
include hl
theorem zmid {q p : P4} {h : Int} (hq : 0 < q.w) (hp : 0 < p.w) (q0 : 0 ≤ q.z) (q1 : q.z ≤ h * q.w) (p0 : 0 ≤ p.z) (p1 : p.z ≤ h * p.w) (a : 0 < q.z ∨ 0 < p.z) (b : q.z < h * q.w ∨ p.z < h * p.w) :
    0 < (onWay (pt4 q) (pt4 p) (1 / 2)).z ∧ (onWay (pt4 q) (pt4 p) (1 / 2)).z < h := by
  have dv : ∀ {x w : Int}, 0 < w → (0 ≤ x → 0 ≤ (x : Rat) / w) ∧ (0 < x → 0 < (x : Rat) / w) ∧ (x ≤ h * w → (x : Rat) / w ≤ h) ∧ (x < h * w → (x : Rat) / w < h) := by
    intro x w hw
    have hw' := kpos hw
    have f1 : 0 < x → 0 < (x : Rat) / w := fun hx => by
      rw [Rat.lt_div_iff hw', Rat.zero_mul]; exact Rat.intCast_pos.2 hx
    have f2 : x < h * w → (x : Rat) / w < h := fun hx => by
      rw [Rat.div_lt_iff hw', ← Rat.intCast_mul]; exact Rat.intCast_lt_intCast.2 hx
    refine ⟨fun hx => ?_, f1, fun hx => ?_, f2⟩
    · by_cases e : x = 0
      · subst e; rw [Rat.div_def]; simp
      · have := f1 (by trivial); grind -abstractProof
    · by_cases e : x = h * w
      · subst e
        have h0 : (w : Rat) ≠ 0 := by grind -abstractProof
        rw [Rat.intCast_mul, Rat.mul_div_cancel h0]; grind -abstractProof
      · have := f2 (by trivial); grind -abstractProof
  have d1 := dv (x := q.z) hq
  have d2 := dv (x := p.z) hp
  simp only [onWay, pt4]
  have a1 := d1.1 q0
  have a2 := d2.1 p0
  have a3 := d1.2.2.1 q1
  have a4 := d2.2.2.1 p1
  constructor
  · rcases a with a | a
    · have := d1.2.1 a; grind -abstractProof
    · have := d2.2.1 a; grind -abstractProof
  · rcases b with a | a
    · have := d1.2.2.2 a; grind -abstractProof
    · have := d2.2.2.2 a; grind -abstractProof
theorem leg4 {o o' : Option Nat} {q p : P4} (hq : Nd r o q) (hp : Nd r o' p) (sA : ∀ i, o = some i → 0 < dep (pl r i) p) (sB : ∀ i, o' = some i → 0 < dep (pl r i) q)
    (a : 0 < q.z ∨ 0 < p.z) (b : q.z < r.h * q.w ∨ p.z < r.h * p.w) : r.clear (pt4 q) (pt4 p) = true ↔ LegP r.n (uc r) q p o o' := by
  refine leg_iff g hl (Int.mul_pos hq.w0 hp.w0) (sc_pt4 hq.w0 p.w) (sc_pt4' hp.w0 q.w) (hq.at hp.w0) (hp.at' hq.w0) ?_ ?_ (zmid g hl hq.w0 hp.w0 hq.z0 hq.z1 hp.z0 hp.z1 a b)
  · rintro i rfl
    exact (sign_leg' g (Nd.own g hq).1 hp.w0 hq.w0).1.2 (sA i rfl)
  · rintro i rfl
    exact (sign_leg g (Nd.own g hp).1 hq.w0 hp.w0).1.2 (sB i rfl)
theorem leg4_pos {o o' : Option Nat} {q p : P4} (hq : Nd r o q) (hp : Nd r o' p) (sA : ∀ i, o = some i → dep (pl r i) p ≠ 0) (sB : ∀ i, o' = some i → dep (pl r i) q ≠ 0)
    (hc : r.clear (pt4 q) (pt4 p) = true) : (∀ i, o = some i → 0 < dep (pl r i) p) ∧ (∀ i, o' = some i → 0 < dep (pl r i) q) := by
  have key := leg_pos g hl (Int.mul_pos hq.w0 hp.w0) (sc_pt4 hq.w0 p.w) (sc_pt4' hp.w0 q.w) (hq.at hp.w0) (hp.at' hq.w0) (fun i e => ?_) (fun i e => ?_) hc
  · refine ⟨fun i e => ?_, fun i e => ?_⟩
    · have k := key.1 i e
      subst e
      exact (sign_leg' g (Nd.own g hq).1 hp.w0 hq.w0).1.1 k
    · have k := key.2 i e
      subst e
      exact (sign_leg g (Nd.own g hp).1 hq.w0 hp.w0).1.1 k
  · subst e
    exact fun z => sA i rfl ((sign_leg' g (Nd.own g hq).1 hp.w0 hq.w0).2.1 z)
  · subst e
    exact fun z => sB i rfl ((sign_leg g (Nd.own g hp).1 hq.w0 hp.w0).2.1 z)
omit hl in
theorem zdiv {x w h : Int} (hw : 0 < w) : ((0 : Rat) < (x : Rat) / w ↔ 0 < x) ∧ ((x : Rat) / w < (h : Rat) ↔ x < h * w) ∧ (((x : Rat) / w == (h : Rat)) = true ↔ x = h * w) := by
  have hw' := kpos hw
  have h0 : (w : Rat) ≠ 0 := by grind -abstractProof
  refine ⟨?_, ?_, ?_⟩
  · rw [Rat.lt_div_iff hw', Rat.zero_mul]; exact Rat.intCast_pos
  · rw [Rat.div_lt_iff hw', ← Rat.intCast_mul]; exact Rat.intCast_lt_intCast
  · rw [beq_iff_eq]
    constructor
    · intro e
      have := Rat.div_mul_cancel (a := (x : Rat)) h0
      rw [e, ← Rat.intCast_mul] at this
      exact (Rat.intCast_inj.1 this).symm
    · intro e
      rw [e, Rat.intCast_mul, Rat.mul_div_cancel h0]
omit hl in
theorem dot_btw (a b : V) (p : P4) : dot (vec (scl p.w a) (scl p.w b)) (vec (scl p.w a) (p.x, p.y)) = p.w * ((b.1 - a.1) * (p.x - a.1 * p.w) + (b.2 - a.2) * (p.y - a.2 * p.w)) ∧
    dot (vec (scl p.w a) (scl p.w b)) (vec (scl p.w a) (scl p.w b)) = p.w * (((b.1 - a.1) * (b.1 - a.1) + (b.2 - a.2) * (b.2 - a.2)) * p.w) := by
  constructor <;> simp only [dot, vec, scl] <;> grind -abstractProof
omit hl in
theorem inWall_side {w : Nat} (hw : w < r.n) {p : P4} (hp : 0 < p.w) (h0 : dep (pl r w) p = 0) :
    (r.inWall w (pt4 p) = true ↔ mayM r.n (uc r) r.h w p = true) ∧ (mayM r.n (uc r) r.h w p = true → Nd r (some w) p ∧ 0 < p.z ∧ p.z < r.h * p.w) := by
  have hne : scl p.w (uc r w) ≠ scl p.w (uc r (w + 1)) := poly_ne (g.poly.scl hp) w
  have hs : sd (scl p.w (uc r w)) (scl p.w (uc r (w + 1))) (p.x, p.y) = 0 := by
    have k := sign_dep (g.oct w) (uc_ne g w) hp p.x p.y p.z
    rw [pl_side g hw] at h0
    exact k.2.2.2 h0
  have d := dot_btw g (uc r w) (uc r (w + 1)) p
  have hb : btwM (uc r w) (uc r (w + 1)) p = true ↔ ∃ s t, Mid (scl p.w (uc r w)) (scl p.w (uc r (w + 1))) (p.x, p.y) s t := by
    unfold btwM
    rw [Bool.and_eq_true, decide_eq_true_eq, decide_eq_true_eq]
    have k1 := mul_lt_iff (a := 0) (b := (((uc r (w + 1)).1 - (uc r w).1) * (p.x - (uc r w).1 * p.w) + ((uc r (w + 1)).2 - (uc r w).2) * (p.y - (uc r w).2 * p.w))) hp
    rw [Int.mul_zero] at k1
    have k2 := mul_lt_iff (a := (((uc r (w + 1)).1 - (uc r w).1) * (p.x - (uc r w).1 * p.w) + ((uc r (w + 1)).2 - (uc r w).2) * (p.y - (uc r w).2 * p.w)))
      (b := ((((uc r (w + 1)).1 - (uc r w).1) * ((uc r (w + 1)).1 - (uc r w).1) + ((uc r (w + 1)).2 - (uc r w).2) * ((uc r (w + 1)).2 - (uc r w).2)) * p.w)) hp
    rw [← k1, ← k2, ← d.1, ← d.2]
    constructor
    · rintro ⟨h1, h2⟩; exact ⟨_, _, mid_of_dot hs h1 h2⟩
    · rintro ⟨s, t, hm⟩; exact mid_dot hne hm
  have z := zdiv g (x := p.z) (h := r.h) hp
  have sc := sc_pt41 hp
  have e1 : dep ⟨0, 0, 1, 0⟩ p = p.z := by simp only [dep]; grind -abstractProof
  have e2 : dep ⟨0, 0, -1, r.h⟩ p = r.h * p.w - p.z := by simp only [dep]; grind -abstractProof
  constructor
  · unfold Room.inWall mayM
    rw [if_pos hw, if_pos hw]
    rw [Bool.and_eq_true, Bool.and_eq_true, Bool.and_eq_true, Bool.and_eq_true, Bool.and_eq_true, hb, line_uc, onLine_sc hp sc, e1, e2, Bool.not_eq_true', ← Bool.not_eq_true, isEnd_sc hp sc]
    simp only [decide_eq_true_eq]
    rw [show (pt4 p).z = (p.z : Rat) / p.w from rfl, z.1, z.2.1]
    constructor
    · rintro ⟨h1, h2, h3, h4⟩
      exact ⟨h3, by trivial, mid_of_lm h1 (fun e => h2 (.inl e)) (fun e => h2 (.inr e))⟩
    · rintro ⟨h3, h4, s, t, hm⟩
      have := mid_ne hne hm
      exact ⟨mid_lm hm, fun e => e.elim this.1 this.2, h3, by trivial⟩
  · intro h
    unfold mayM at h
    rw [if_pos hw, Bool.and_eq_true, Bool.and_eq_true, hb, e1, e2] at h
    simp only [decide_eq_true_eq] at h
    exact ⟨⟨hp, by trivial, by trivial, hw, h.2.2⟩, by trivial, by trivial⟩
omit hl in
theorem inWall_flat {w : Nat} (hw : ¬ w < r.n) {p : P4} (hp : 0 < p.w) (hh : 0 < r.h) (h0 : dep (pl r w) p = 0) :
    (r.inWall w (pt4 p) = true ↔ NodV r.n (fun i => scl p.w (uc r i)) none (p.x, p.y)) ∧ 0 ≤ p.z ∧ p.z ≤ r.h * p.w := by
  have hhw := Int.mul_pos hh hp
  unfold Room.inWall
  rw [if_neg hw, Bool.and_eq_true, within_sc r hp (sc_pt41 hp)]
  by_cases h2 : w = r.n
  · have e : p.z = 0 := by
      simp only [pl, planeM, if_neg hw, if_pos h2, dep] at h0
      trivial
    rw [if_pos h2]
    have : ((pt4 p).z == 0) = true := by
      have := (zdiv g (x := p.z) (h := 0) hp).2.2.2 (by trivial)
      simpa [pt4] using this
    rw [this]
    exact ⟨⟨fun h => h.1, fun h => ⟨h, rfl⟩⟩, by trivial, by trivial⟩
  · have e : p.z = r.h * p.w := by
      simp only [pl, planeM, if_neg hw, if_neg h2, dep] at h0
      trivial
    rw [if_neg h2]
    have : ((pt4 p).z == (r.h : Rat)) = true := (zdiv g (x := p.z) (h := r.h) hp).2.2.2 e
    rw [this]
    exact ⟨⟨fun h => h.1, fun h => ⟨h, rfl⟩⟩, by trivial, by trivial⟩
end
end Geo
end
section
local macro_rules | `(tactic| trivial) => `(tactic| first | lia -abstractProof | omega)
set_option linter.unusedVariables false
set_option linter.unusedSectionVars false
namespace Geo
open Eh
def hdI (s : P4) : List (Nat × P4) → P4
  | [] => s
  | (_, i) :: _ => i
def Ch (r : Room) (s : P4) : List (Nat × P4) → Prop
  | [] => True
  | (w, i) :: m => w < r.walls ∧ i.w = 1 ∧ dep (pl r w) i = - dep (pl r w) (hdI s m) ∧ Ch r s m
def toR (L : List (Nat × P4)) : List (Nat × Pt) := L.map fun x => (x.1, pt4 x.2)
def neg4 (p : P4) : P4 := ⟨-p.x, -p.y, -p.z, -p.w⟩
theorem pt4_neg (p : P4) : pt4 (neg4 p) = pt4 p := by
  have : ∀ a b : Int, ((-a : Int) : Rat) / ((-b : Int) : Rat) = (a : Rat) / b := by
    intro a b
    by_cases hb : b = 0
    · subst hb; rw [Rat.div_def, Rat.div_def]; simp
    · have h0 : (b : Rat) ≠ 0 := by rw [ne_eq, Rat.intCast_eq_zero_iff]; exact hb
      have h1 : (-(b : Rat)) ≠ 0 := by grind -abstractProof
      push_cast
      refine (rat_eq_div h1 ?_).symm
      have := Rat.div_mul_cancel (a := (a : Rat)) h0
      generalize (a : Rat) / b = T at *
      grind -abstractProof
  simp only [pt4, neg4, this]
theorem dep_neg (l : Pl4) (p : P4) : dep l (neg4 p) = - dep l p := by simp only [dep, neg4]; grind -abstractProof
section
variable {r : Room} (g : Good r) (hl : lefty r.n (uc r) 0 = 1) {s : P4} (hs : Nd r none s) (sz : 0 < s.z ∧ s.z < r.h * s.w) (hh : 0 < r.h)
include g hl hs sz hh
theorem sw_some {w i : Nat} (h : sw r.n w = some i) : w = i ∧ w < r.n := by
  unfold sw at h
  split at h
  · exact ⟨Option.some.inj h, by assumption⟩
  · cases h
theorem sw_flat {w : Nat} (h : ¬ w < r.n) : sw r.n w = none := by unfold sw; rw [if_neg h]
theorem sw_side {w : Nat} (h : w < r.n) : sw r.n w = some w := by unfold sw; rw [if_pos h]
theorem flat_dep {w : Nat} (hw : w < r.walls) (h : ¬ w < r.n) {q : P4} (q0 : 0 ≤ q.z) (q1 : q.z ≤ r.h * q.w) : 0 ≤ dep (pl r w) q ∧ (0 < dep (pl r w) q → (w = r.n ∧ 0 < q.z) ∨ (w = r.n + 1 ∧ q.z < r.h * q.w)) := by
  by_cases h2 : w = r.n
  · have e : dep (pl r w) q = q.z := by
      simp only [pl, planeM, if_neg h, if_pos h2, dep]; trivial
    rw [e]; trivial
  · have e : dep (pl r w) q = r.h * q.w - q.z := by
      simp only [pl, planeM, if_neg h, if_neg h2, dep]; trivial
    unfold Room.walls at hw
    rw [e]; trivial
theorem flat_z {w : Nat} (hw : w < r.walls) (h : ¬ w < r.n) {p : P4} (h0 : dep (pl r w) p = 0) : (w = r.n → p.z = 0) ∧ (w = r.n + 1 → p.z = r.h * p.w) := by
  constructor
  · intro h2
    simp only [pl, planeM, if_neg h, if_pos h2, dep] at h0; trivial
  · intro h2
    simp only [pl, planeM, if_neg h, if_neg (show ¬ w = r.n by trivial), dep] at h0; trivial
theorem leg_z {w : Nat} (hw : w < r.walls) {q p : P4} (q0 : 0 ≤ q.z) (q1 : q.z ≤ r.h * q.w) (hp : 0 < p.w) (hA : 0 < dep (pl r w) q) (h0 : dep (pl r w) p = 0)
    (hside : w < r.n → 0 < p.z ∧ p.z < r.h * p.w) : (0 < q.z ∨ 0 < p.z) ∧ (q.z < r.h * q.w ∨ p.z < r.h * p.w) := by
  have hhp := Int.mul_pos hh hp
  by_cases h : w < r.n
  · have := hside h; trivial
  · have f := (flat_dep g hl hs sz hh hw h q0 q1).2 hA
    have z := flat_z g hl hs sz hh hw h h0
    rcases f with ⟨f1, f2⟩ | ⟨f1, f2⟩
    · have := z.1 f1; trivial
    · have := z.2 f1; trivial
theorem own_crs {o : Option Nat} {q i : P4} {w : Nat} (hq : Nd r o q) (j : Nat) (e : o = some j) : dep (pl r j) (crs (pl r w) i q) = dep (pl r w) q * dep (pl r j) i := by
  subst e
  rw [dep_crs, (Nd.own g hq).2]; grind -abstractProof
theorem T1 : ∀ (L : List (Nat × P4)) (q : P4) (o : Option Nat), Nd r o q → Ch r s L → (∀ j, o = some j → dep (pl r j) (hdI s L) ≠ 0) → SP r (pt4 s) (pt4 q) (toR L) →
    (∀ x ∈ L, dep (pl r x.1) x.2 < 0) ∧ (∀ j, o = some j → 0 < dep (pl r j) (hdI s L)) ∧ PB r.n (uc r) r.h s q o L
  | [], q, o, hq, _, hO, h => by
    have h' : r.clear (pt4 q) (pt4 s) = true := h
    have k := leg4_pos g hl hq hs hO (fun i e => by cases e) h'
    refine ⟨fun x hx => by simp at hx, k.1, ?_⟩
    exact (leg4 g hl hq hs k.1 (fun i e => by cases e) (.inr sz.1) (.inr sz.2)).1 h'
  | (w, i) :: m, q, o, hq, hC, hO, h => by
    obtain ⟨hw, hi, hm, hC'⟩ := hC
    obtain ⟨p, ht, hin, hc, hr⟩ := h
    rw [through_iff g hw hq.w0 hi] at ht
    obtain ⟨hsg, rfl⟩ := ht
    have ew : (crs (pl r w) i q).w = dep (pl r w) q + -dep (pl r w) i * q.w := by simp only [crs, hi]; grind -abstractProof
    have m1 : dep (pl r w) i < 0 → 0 < -dep (pl r w) i * q.w := fun h => Int.mul_pos (by trivial) hq.w0
    have m2 : 0 < dep (pl r w) i → 0 < dep (pl r w) i * q.w := fun h => Int.mul_pos (by trivial) hq.w0
    have m3 : -dep (pl r w) i * q.w = -(dep (pl r w) i * q.w) := by grind -abstractProof
    obtain ⟨c, hc4, hcw, hcd⟩ : ∃ c : P4, pt4 c = pt4 (crs (pl r w) i q) ∧ 0 < c.w ∧ ((0 < dep (pl r w) q ∧ c = crs (pl r w) i q) ∨ (dep (pl r w) q < 0 ∧ c = neg4 (crs (pl r w) i q))) := by
      rcases hsg with ⟨h1, h2⟩ | ⟨h1, h2⟩
      · have := m1 h2
        exact ⟨_, rfl, by trivial, .inl ⟨h1, rfl⟩⟩
      · have := m2 h2
        exact ⟨_, pt4_neg _, by simp only [neg4]; trivial, .inr ⟨h1, rfl⟩⟩
    have hc0 : ∀ l : Pl4, dep l c = 0 ↔ dep l (crs (pl r w) i q) = 0 := by
      intro l
      rcases hcd with ⟨_, e⟩ | ⟨_, e⟩
      · rw [e]
      · rw [e, dep_neg]; trivial
    have hcz : dep (pl r w) c = 0 := (hc0 _).2 (dep_crs0 _ _ _)
    have hA0 : dep (pl r w) q ≠ 0 := by trivial
    rw [← hc4] at hin hc
    have hN : Nd r (sw r.n w) c ∧ (w < r.n → 0 < c.z ∧ c.z < r.h * c.w) := by
      by_cases h : w < r.n
      · have k := inWall_side g h hcw hcz
        have := k.2 (k.1.1 hin)
        rw [sw_side g hl hs sz hh h]
        exact ⟨this.1, fun _ => this.2⟩
      · have k := inWall_flat g h hcw hh hcz
        rw [sw_flat g hl hs sz hh h]
        exact ⟨⟨hcw, k.2.1, k.2.2, k.1.1 hin⟩, fun z => absurd z h⟩
    have kpos := leg4_pos g hl hq hN.1 (fun j e => by
        rw [ne_eq, hc0, own_crs g hl hs sz hh hq j e]
        intro z
        rcases Int.mul_eq_zero.1 z with z | z
        · exact hA0 z
        · exact hO j e z) (fun j e => by
        obtain ⟨rfl, _⟩ := sw_some g hl hs sz hh e
        exact hA0) hc
    have hA : 0 < dep (pl r w) q := by
      by_cases h : w < r.n
      · exact kpos.2 w (sw_side g hl hs sz hh h)
      · have := (flat_dep g hl hs sz hh hw h hq.z0 hq.z1).1
        trivial
    have hB : dep (pl r w) i < 0 := by trivial
    have ec : c = crs (pl r w) i q := by
      rcases hcd with ⟨_, e⟩ | ⟨z, _⟩
      · exact e
      · trivial
    have hO' : ∀ j, o = some j → 0 < dep (pl r j) i := fun j e => by
      have := kpos.1 j e
      rw [ec, own_crs g hl hs sz hh hq j e] at this
      exact pos_of (Int.le_of_lt hA) this
    have ih := T1 m c (sw r.n w) hN.1 hC' (fun j e => by
      obtain ⟨rfl, _⟩ := sw_some g hl hs sz hh e
      trivial) (by rw [hc4]; exact hr)
    have zz := leg_z g hl hs sz hh hw hq.z0 hq.z1 hcw hA hcz hN.2
    refine ⟨fun x hx => ?_, hO', ?_⟩
    · rcases List.mem_cons.1 hx with e | hx
      · subst e; exact hB
      · exact ih.1 x hx
    · refine ⟨hA, ?_, ?_, ?_⟩
      · show mayM r.n (uc r) r.h w (crs (pl r w) i q) = true
        rw [← ec]
        by_cases h : w < r.n
        · exact (inWall_side g h hcw hcz).1.1 hin
        · unfold mayM; rw [if_neg h]
      · show LegP r.n (uc r) q (crs (pl r w) i q) o (sw r.n w)
        rw [← ec]
        exact (leg4 g hl hq hN.1 kpos.1 kpos.2 zz.1 zz.2).1 hc
      · show PB r.n (uc r) r.h s (crs (pl r w) i q) (sw r.n w) m
        rw [← ec]
        exact ih.2.2
theorem T2 : ∀ (L : List (Nat × P4)) (q : P4) (o : Option Nat), Nd r o q → Ch r s L → (∀ j, o = some j → 0 < dep (pl r j) (hdI s L)) → (∀ x ∈ L, dep (pl r x.1) x.2 < 0) →
    PB r.n (uc r) r.h s q o L → SP r (pt4 s) (pt4 q) (toR L)
  | [], q, o, hq, _, hO, _, h => (leg4 g hl hq hs hO (fun i e => by cases e) (.inr sz.1) (.inr sz.2)).2 h
  | (w, i) :: m, q, o, hq, hC, hO, hn, h => by
    obtain ⟨hw, hi, hm, hC'⟩ := hC
    obtain ⟨hA, hmay, hleg, hrest⟩ := h
    have hA : 0 < dep (pl r w) q := hA
    have hmay : mayM r.n (uc r) r.h w (crs (pl r w) i q) = true := hmay
    have hleg : LegP r.n (uc r) q (crs (pl r w) i q) o (sw r.n w) := hleg
    have hrest : PB r.n (uc r) r.h s (crs (pl r w) i q) (sw r.n w) m := hrest
    have hB : dep (pl r w) i < 0 := hn (w, i) (by simp)
    have ew : (crs (pl r w) i q).w = dep (pl r w) q + -dep (pl r w) i * q.w := by simp only [crs, hi]; grind -abstractProof
    have m1 : 0 < -dep (pl r w) i * q.w := Int.mul_pos (by trivial) hq.w0
    have hcw : 0 < (crs (pl r w) i q).w := by trivial
    have hcz : dep (pl r w) (crs (pl r w) i q) = 0 := dep_crs0 _ _ _
    have hO' : ∀ j, o = some j → 0 < dep (pl r j) (crs (pl r w) i q) := fun j e => by
      rw [own_crs g hl hs sz hh hq j e]
      exact Int.mul_pos hA (hO j e)
    have hN : Nd r (sw r.n w) (crs (pl r w) i q) ∧ (w < r.n → 0 < (crs (pl r w) i q).z ∧ (crs (pl r w) i q).z < r.h * (crs (pl r w) i q).w) ∧ r.inWall w (pt4 (crs (pl r w) i q)) = true := by
      by_cases h : w < r.n
      · have k := inWall_side g h hcw hcz
        have := k.2 hmay
        rw [sw_side g hl hs sz hh h]
        exact ⟨this.1, fun _ => this.2, k.1.2 hmay⟩
      · have k := inWall_flat g h hcw hh hcz
        rw [sw_flat g hl hs sz hh h] at hleg ⊢
        have hk := Int.mul_pos hq.w0 hcw
        have P := g.poly.scl hk
        have L : lefty r.n (fun j => scl (q.w * (crs (pl r w) i q).w) (uc r j)) 0 = 1 := by rw [lefty_scl hk]; exact hl
        have key := carry P L (hq.at hcw) (X := ((crs (pl r w) i q).x * q.w, (crs (pl r w) i q).y * q.w)) (fun j hj hne => hleg j hj hne (by simp)) (fun j e => by
          have := hO' j e
          subst e
          exact (sign_leg' g (Nd.own g hq).1 hcw hq.w0).1.2 this)
        have key2 : NodV r.n (fun j => scl (crs (pl r w) i q).w (uc r j)) none ((crs (pl r w) i q).x, (crs (pl r w) i q).y) := by
          refine nodV_unscl hq.w0 ?_
          simp only [scl_scl]
          have e : scl q.w ((crs (pl r w) i q).x, (crs (pl r w) i q).y) = ((crs (pl r w) i q).x * q.w, (crs (pl r w) i q).y * q.w) := by
            simp only [scl]; rw [Int.mul_comm q.w, Int.mul_comm q.w]
          rw [e]
          exact key
        exact ⟨⟨hcw, k.2.1, k.2.2, key2⟩, fun z => absurd z h, k.1.2 key2⟩
    have zz := leg_z g hl hs sz hh hw hq.z0 hq.z1 hcw hA hcz hN.2.1
    refine ⟨pt4 (crs (pl r w) i q), (through_iff g hw hq.w0 hi _).2 ⟨.inl ⟨hA, hB⟩, rfl⟩, hN.2.2, ?_, ?_⟩
    · refine (leg4 g hl hq hN.1 hO' (fun j e => ?_) zz.1 zz.2).2 hleg
      obtain ⟨rfl, _⟩ := sw_some g hl hs sz hh e
      exact hA
    · refine T2 m _ _ hN.1 hC' (fun j e => ?_) (fun x hx => hn x (List.mem_cons_of_mem _ hx)) hrest
      obtain ⟨rfl, _⟩ := sw_some g hl hs sz hh e
      trivial
end
def LR (n : Nat) (u : Nat → V) (h : Int) (s : P4) : List Nat → List (Nat × P4)
  | [] => []
  | w :: m => (w, mir (planeM n u h w) (hdI s (LR n u h s m))) :: LR n u h s m
def w4 (s : Whole) : P4 := ⟨s.x, s.y, s.z, 1⟩
theorem pt4_w4 (s : Whole) : pt4 (w4 s) = s.pt := pt4_one rfl
section
variable {r : Room} (g : Good r)
include g
theorem LR_ch (s : P4) (hs : s.w = 1) : ∀ m : List Nat, (∀ w ∈ m, w < r.walls) → Ch r s (LR r.n (uc r) r.h s m) ∧ (hdI s (LR r.n (uc r) r.h s m)).w = 1
  | [], _ => ⟨trivial, hs⟩
  | w :: m, h => by
    have ih := LR_ch s hs m (fun x hx => h x (List.mem_cons_of_mem _ hx))
    have k := mirror_eq g (h w (by simp)) ih.2
    exact ⟨⟨h w (by simp), k.2.1, k.2.2, ih.1⟩, k.2.1⟩
theorem images_eq (s : P4) (hs : s.w = 1) : ∀ m : List Nat, (∀ w ∈ m, w < r.walls) →
    ∃ l, m.foldr (fun (w : Nat) (l : List Pt) => r.mirror w (l.headD (pt4 s)) :: l) [pt4 s] = l ∧ l.headD (pt4 s) = pt4 (hdI s (LR r.n (uc r) r.h s m)) ∧ List.zip m l = toR (LR r.n (uc r) r.h s m)
  | [], _ => ⟨_, rfl, rfl, rfl⟩
  | w :: m, h => by
    obtain ⟨l, h1, h2, h3⟩ := images_eq s hs m (fun x hx => h x (List.mem_cons_of_mem _ hx))
    have k := mirror_eq g (h w (by simp)) (LR_ch g s hs m (fun x hx => h x (List.mem_cons_of_mem _ hx))).2
    refine ⟨r.mirror w (l.headD (pt4 s)) :: l, ?_, ?_, ?_⟩
    · rw [List.foldr_cons, h1]
    · rw [List.headD_cons, h2, k.1]; rfl
    · rw [List.zip_cons_cons, h3, h2, k.1]; rfl
theorem inside_nd {s : Whole} (h : r.inside s.pt = true) : Nd r none (w4 s) ∧ 0 < (w4 s).z ∧ (w4 s).z < r.h * (w4 s).w := by
  unfold Room.inside at h
  rw [Bool.and_eq_true, Bool.and_eq_true, decide_eq_true_eq, decide_eq_true_eq] at h
  have z1 : 0 < s.z := by
    have : ((0 : Int) : Rat) < (s.z : Rat) := h.2.1
    exact Rat.intCast_lt_intCast.1 this
  have z2 : s.z < r.h := by
    have : (s.z : Rat) < (r.h : Rat) := h.2.2
    exact Rat.intCast_lt_intCast.1 this
  have hw := h.1
  rw [← pt4_w4, within_sc r (k := 1) (by trivial) (P := (s.x, s.y)) (by have := sc_pt41 (q := w4 s) (by show (0 : Int) < 1; decide); exact this)] at hw
  refine ⟨⟨by show (0 : Int) < 1; decide, ?_, ?_, hw⟩, ?_, ?_⟩ <;> simp only [w4] <;> trivial
theorem path_iff (hl : lefty r.n (uc r) 0 = 1) {s e : Whole} (hs : r.inside s.pt = true) (he : r.inside e.pt = true) {row : List Nat} (hr : ∀ w ∈ row, w < r.walls) :
    r.isPath s.pt e.pt row = true ↔ (∀ x ∈ LR r.n (uc r) r.h (w4 s) row.reverse, dep (pl r x.1) x.2 < 0) ∧ PB r.n (uc r) r.h (w4 s) (w4 e) none (LR r.n (uc r) r.h (w4 s) row.reverse) := by
  have ns := inside_nd g hs
  have ne := inside_nd g he
  have hh : 0 < r.h := by have := ns.2; simp only [w4] at this; trivial
  have hr' : ∀ w ∈ row.reverse, w < r.walls := fun w hw => hr w (List.mem_reverse.1 hw)
  have ch := (LR_ch g (w4 s) rfl row.reverse hr').1
  unfold Room.isPath Room.turns
  rw [if_pos ⟨hs, he, by rw [List.all_eq_true]; intro w hw; exact decide_eq_true (hr w hw)⟩, found_iff]
  obtain ⟨l, h1, _, h3⟩ := images_eq g (w4 s) rfl row.reverse hr'
  have e1 : r.images s.pt row = l := by
    unfold Room.images
    rw [List.foldl_eq_foldr_reverse, ← h1, pt4_w4]
  rw [e1, h3, ← pt4_w4 s, ← pt4_w4 e]
  constructor
  · intro h
    have := T1 g hl ns.1 ns.2 hh _ (w4 e) none ne.1 ch (fun j z => by cases z) h
    exact ⟨this.1, this.2.2⟩
  · rintro ⟨h1, h2⟩
    exact T2 g hl ns.1 ns.2 hh _ (w4 e) none ne.1 ch (fun j z => by cases z) h1 h2
end
end Geo
end
section
local macro_rules | `(tactic| trivial) => `(tactic| first | lia -abstractProof | omega)
set_option linter.unusedVariables false
set_option linter.unusedSectionVars false
namespace Geo
open Eh
def scr (k : Int) (a : V) : V := (a.1 * k, a.2 * k)
theorem scr_eq (k : Int) (a : V) : scr k a = scl k a := by simp only [scr, scl, Int.mul_comm]
def legB (n : Nat) (u : Nat → V) (p q : P4) (own : List Nat) : Bool := (List.range n).all fun j => own.contains j ||
  !decide (lm (p.x * q.w, p.y * q.w) (q.x * p.w, q.y * p.w) (scr (p.w * q.w) (u j)) (scr (p.w * q.w) (u (j + 1))))
def bkM (n : Nat) (u : Nat → V) (h : Int) : List (Nat × P4) → P4 → Option (List P4)
  | [], _ => some []
  | (w, i) :: m, q => if dep (planeM n u h w) q ≤ 0 then none else if mayM n u h w (crs (planeM n u h w) i q) = false then none else
      (bkM n u h m (crs (planeM n u h w) i q)).map fun ps => crs (planeM n u h w) i q :: ps
def ptsM (s e : P4) (ps : List P4) : List P4 := (e :: ps ++ [s]).reverse
def legsM (n : Nat) (u : Nat → V) (s : P4) (row : List Nat) (pts : List P4) : Bool :=
  (List.range (row.length + 1)).all fun k => legB n u (pts.getD k s) (pts.getD (k + 1) s) ((row.take (k + 1)).drop (k - 1))
def pathM (n : Nat) (u : Nat → V) (h : Int) (s : P4) (row : List Nat) (e : P4) : Bool := match bkM n u h (LR n u h s row.reverse) e with
  | none => false
  | some ps => legsM n u s row (ptsM s e ps)
def CL (n : Nat) (u : Nat → V) (s : P4) : P4 → Option Nat → List Nat → List P4 → Prop
  | q, o, w :: ws, p :: ps => LegP n u q p o (sw n w) ∧ CL n u s p (sw n w) ws ps
  | q, o, _, _ => LegP n u q s o none
theorem pb_bk (n : Nat) (u : Nat → V) (h : Int) (s : P4) : ∀ (L : List (Nat × P4)) (q : P4) (o : Option Nat),
    PB n u h s q o L ↔ ∃ ps, bkM n u h L q = some ps ∧ ps.length = L.length ∧ CL n u s q o (L.map Prod.fst) ps
  | [], q, o => by
    constructor
    · intro h; exact ⟨[], rfl, rfl, h⟩
    · rintro ⟨ps, e, _, h⟩; cases e; exact h
  | (w, i) :: m, q, o => by
    unfold PB bkM
    by_cases h1 : dep (planeM n u h w) q ≤ 0
    · rw [if_pos h1]
      constructor
      · rintro ⟨h2, _⟩; trivial
      · rintro ⟨ps, e, _⟩; cases e
    · rw [if_neg h1]
      by_cases h2 : mayM n u h w (crs (planeM n u h w) i q) = false
      · rw [if_pos h2]
        constructor
        · rintro ⟨_, h3, _⟩; rw [h2] at h3; cases h3
        · rintro ⟨ps, e, _⟩; cases e
      · rw [if_neg h2, pb_bk n u h s m]
        constructor
        · rintro ⟨_, _, hl, ps, e, hn, hc⟩
          exact ⟨_ :: ps, by rw [e]; rfl, by simp [hn], hl, hc⟩
        · rintro ⟨ps, e, hn, hc⟩
          cases e2 : bkM n u h m (crs (planeM n u h w) i q) with
          | none => rw [e2] at e; cases e
          | some ps' =>
            rw [e2] at e
            cases e
            exact ⟨by trivial, by simpa using h2, hc.1, ps', rfl, by simpa using hn, hc.2⟩
def oB (n : Nat) (o : Option Nat) (R : List Nat) : Nat → Option Nat
  | 0 => o
  | k + 1 => (R[k]?).bind fun w => sw n w
theorem cl_ix (n : Nat) (u : Nat → V) (s : P4) : ∀ (R : List Nat) (ps : List P4) (q : P4) (o : Option Nat), ps.length = R.length →
    (CL n u s q o R ps ↔ ∀ k, k ≤ R.length → LegP n u ((q :: ps ++ [s]).getD k s) ((q :: ps ++ [s]).getD (k + 1) s) (oB n o R k) (oB n o R (k + 1)))
  | [], ps, q, o, h => by
    have : ps = [] := by simpa using h
    subst this
    constructor
    · intro h k hk
      have : k = 0 := by simpa using hk
      subst this
      exact h
    · intro h; exact h 0 (by simp)
  | w :: R, [], q, o, h => by simp at h
  | w :: R, p :: ps, q, o, h => by
    have ih := cl_ix n u s R ps p (sw n w) (by simpa using h)
    unfold CL
    rw [ih]
    have hb : ∀ k, oB n o (w :: R) (k + 1) = oB n (sw n w) R k := by
      intro k
      cases k with
      | zero => simp [oB]
      | succ k => simp [oB]
    constructor
    · rintro ⟨h1, h2⟩ k hk
      cases k with
      | zero =>
        rw [hb]; exact h1
      | succ k =>
        rw [hb, hb]
        exact h2 k (by simpa using hk)
    · intro h
      refine ⟨?_, fun k hk => ?_⟩
      · have := h 0 (by simp); rw [hb] at this; exact this
      · have := h (k + 1) (by simpa using hk); rw [hb, hb] at this; exact this
theorem leg_own {n : Nat} {u : Nat → V} {p q : P4} {own : List Nat} {o o' : Option Nat} (h : ∀ j, j < n → (j ∈ own ↔ (o = some j ∨ o' = some j))) : legB n u p q own = true ↔ LegP n u q p o o' := by
  unfold legB LegP
  rw [List.all_eq_true]
  constructor
  · intro hh j hj h1 h2 hx
    have := hh j (List.mem_range.2 hj)
    rw [Bool.or_eq_true, List.contains_iff_mem, h j hj, Bool.not_eq_true', decide_eq_false_iff_not] at this
    rcases this with (k | k) | k
    · exact h1 k
    · exact h2 k
    · rw [scr_eq, scr_eq, Int.mul_comm p.w q.w] at k
      exact k ((lm_swap_l _ _ _ _).1 hx)
  · intro hh j hj
    have hj := List.mem_range.1 hj
    rw [Bool.or_eq_true, List.contains_iff_mem, h j hj, Bool.not_eq_true', decide_eq_false_iff_not]
    by_cases h1 : o = some j
    · exact .inl (.inl h1)
    by_cases h2 : o' = some j
    · exact .inl (.inr h2)
    right
    intro hx
    rw [scr_eq, scr_eq, Int.mul_comm p.w q.w] at hx
    exact hh j hj h1 h2 ((lm_swap_l _ _ _ _).1 hx)
theorem rev_getD {l : List P4} {s : P4} {k : Nat} (h : k < l.length) : l.reverse.getD k s = l.getD (l.length - 1 - k) s := by
  rw [List.getD_eq_getElem?_getD, List.getD_eq_getElem?_getD, List.getElem?_reverse h]
theorem own_mem {row : List Nat} {k j : Nat} : j ∈ (row.take (k + 1)).drop (k - 1) ↔ (row[k]? = some j ∨ (1 ≤ k ∧ row[k - 1]? = some j)) := by
  rw [List.mem_iff_getElem?]
  constructor
  · rintro ⟨i, hi⟩
    rw [List.getElem?_drop, List.getElem?_take] at hi
    split at hi
    · rename_i hlt
      by_cases e : k - 1 + i = k
      · rw [e] at hi; exact .inl hi
      · have : k - 1 + i = k - 1 := by trivial
        rw [this] at hi
        exact .inr ⟨by trivial, hi⟩
    · cases hi
  · rintro (h | ⟨h1, h⟩)
    · refine ⟨k - (k - 1), ?_⟩
      rw [List.getElem?_drop, List.getElem?_take, if_pos (by trivial), show k - 1 + (k - (k - 1)) = k by trivial]; exact h
    · refine ⟨0, ?_⟩
      rw [List.getElem?_drop, List.getElem?_take, if_pos (by trivial)]; exact h
theorem legs_iff (n : Nat) (u : Nat → V) (s : P4) (row : List Nat) (e : P4) (ps : List P4) (hl : ps.length = row.length) :
    legsM n u s row (ptsM s e ps) = true ↔ CL n u s e none row.reverse ps := by
  rw [cl_ix n u s row.reverse ps e none (by rw [List.length_reverse]; exact hl)]
  unfold legsM ptsM
  rw [List.all_eq_true, List.length_reverse]
  have len : (e :: ps ++ [s]).length = row.length + 2 := by simp [hl]
  have key : ∀ k, k ≤ row.length → (legB n u ((e :: ps ++ [s]).reverse.getD k s) ((e :: ps ++ [s]).reverse.getD (k + 1) s) ((row.take (k + 1)).drop (k - 1)) = true ↔
      LegP n u ((e :: ps ++ [s]).getD (row.length - k) s) ((e :: ps ++ [s]).getD (row.length - k + 1) s) (oB n none row.reverse (row.length - k)) (oB n none row.reverse (row.length - k + 1))) := by
    intro k hk
    rw [rev_getD (by trivial), rev_getD (by trivial), len, show row.length + 2 - 1 - k = row.length - k + 1 by trivial, show row.length + 2 - 1 - (k + 1) = row.length - k by trivial]
    refine leg_own fun j hj => ?_
    rw [own_mem]
    have h1 : row[k]? = some j ↔ oB n none row.reverse (row.length - k) = some j := by
      cases hk' : row.length - k with
      | zero =>
        rw [List.getElem?_eq_none (by trivial)]
        simp [oB]
      | succ m =>
        simp only [oB]
        rw [List.getElem?_reverse (by trivial), show row.length - 1 - m = k by trivial]
        cases ek : row[k]? with
        | none => simp
        | some w =>
          simp only [Option.bind_some, sw, Option.some.injEq]
          constructor
          · rintro rfl; rw [if_pos hj]
          · intro h; split at h
            · exact Option.some.inj h
            · cases h
    have h2 : (1 ≤ k ∧ row[k - 1]? = some j) ↔ oB n none row.reverse (row.length - k + 1) = some j := by
      simp only [oB]
      by_cases h0 : 1 ≤ k
      · rw [List.getElem?_reverse (by trivial), show row.length - 1 - (row.length - k) = k - 1 by trivial]
        cases ek : row[k - 1]? with
        | none => simp
        | some w =>
          simp only [Option.bind_some, sw, Option.some.injEq]
          constructor
          · rintro ⟨_, rfl⟩; rw [if_pos hj]
          · intro h; split at h
            · exact ⟨h0, Option.some.inj h⟩
            · cases h
      · have hz : row.reverse[row.length - k]? = none := List.getElem?_eq_none (by rw [List.length_reverse]; trivial)
        rw [hz]
        simp [h0]
    rw [h1, h2]
  constructor
  · intro h k hk
    have := (key (row.length - k) (by trivial)).1 (h _ (List.mem_range.2 (by trivial)))
    rw [show row.length - (row.length - k) = k by trivial] at this
    exact this
  · intro h k hk
    exact (key k (by have := List.mem_range.1 hk; trivial)).2 (h _ (by trivial))
theorem LR_fst (n : Nat) (u : Nat → V) (h : Int) (s : P4) : ∀ m, (LR n u h s m).map Prod.fst = m
  | [] => rfl
  | w :: m => by simp [LR, LR_fst n u h s m]
theorem LR_len (n : Nat) (u : Nat → V) (h : Int) (s : P4) (m : List Nat) : (LR n u h s m).length = m.length := by
  have := congrArg List.length (LR_fst n u h s m); simpa using this
theorem pathM_iff (n : Nat) (u : Nat → V) (h : Int) (s : P4) (row : List Nat) (e : P4) : pathM n u h s row e = true ↔ PB n u h s e none (LR n u h s row.reverse) := by
  rw [pb_bk, LR_fst, LR_len, List.length_reverse]
  unfold pathM
  cases eb : bkM n u h (LR n u h s row.reverse) e with
  | none => simp
  | some ps =>
    simp only
    have hl : ps.length = row.length := by
      have : ∀ (L : List (Nat × P4)) (q : P4) (ps : List P4), bkM n u h L q = some ps → ps.length = L.length := by
        intro L
        induction L with
        | nil => intro q ps h; cases h; rfl
        | cons x m ih =>
          intro q ps hh
          obtain ⟨w, i⟩ := x
          unfold bkM at hh
          split at hh
          · cases hh
          split at hh
          · cases hh
          cases e2 : bkM n u h m (crs (planeM n u h w) i q) with
          | none => rw [e2] at hh; cases hh
          | some ps' => rw [e2] at hh; cases hh; simp [ih _ _ e2]
      rw [this _ _ _ eb, LR_len, List.length_reverse]
    rw [legs_iff n u s row e ps hl]
    constructor
    · intro h; exact ⟨ps, rfl, hl, h⟩
    · rintro ⟨ps', e', _, h⟩; cases e'; exact h
def newM (n : Nat) (u : Nat → V) (h : Int) (s : P4) : Nat → List (List Nat)
  | 0 => [[]]
  | k + 1 => (newM n u h s k).flatMap fun l => ((List.range (n + 2)).filter fun w => decide (0 < dep (planeM n u h w) (hdI s (LR n u h s l.reverse)))).map fun w => l ++ [w]
def rowsM (n : Nat) (u : Nat → V) (h : Int) (s : P4) (most : Nat) : List (List Nat) := (List.range (most + 1)).flatMap (newM n u h s)
def okB (n : Nat) (u : Nat → V) (h : Int) (s : P4) (l : List Nat) : Bool := (LR n u h s l.reverse).all fun x => decide (dep (planeM n u h x.1) x.2 < 0)
theorem rowsOf_lt (N : Nat) : ∀ k l, l ∈ rowsOf N k → ∀ w ∈ l, w < N
  | 0, l, h => by
    simp [rowsOf] at h; subst h; simp
  | k + 1, l, h => by
    unfold rowsOf at h
    rw [List.mem_flatMap] at h
    obtain ⟨l', h1, h2⟩ := h
    rw [List.mem_map] at h2
    obtain ⟨w, h2, rfl⟩ := h2
    intro x hx
    rcases List.mem_append.1 hx with hx | hx
    · exact rowsOf_lt N k l' h1 x hx
    · have : x = w := by simpa using hx
      rw [this]; exact List.mem_range.1 h2
theorem flatMap_congr' {α β : Type} {f g : α → List β} : ∀ (l : List α), (∀ x ∈ l, f x = g x) → l.flatMap f = l.flatMap g
  | [], _ => rfl
  | x :: l, h => by rw [List.flatMap_cons, List.flatMap_cons, h x (by simp), flatMap_congr' l (fun y hy => h y (List.mem_cons_of_mem _ hy))]
theorem filter_flatMap' {α β : Type} (p : β → Bool) (f : α → List β) : ∀ l : List α, (l.flatMap f).filter p = l.flatMap fun x => (f x).filter p
  | [] => rfl
  | x :: l => by rw [List.flatMap_cons, List.flatMap_cons, List.filter_append, filter_flatMap' p f l]
theorem flatMap_filter' {α β : Type} (p : α → Bool) (f : α → List β) : ∀ l : List α, (l.filter p).flatMap f = l.flatMap fun x => if p x = true then f x else []
  | [] => rfl
  | x :: l => by
    rw [List.flatMap_cons, List.filter_cons]
    by_cases h : p x = true
    · rw [if_pos h, if_pos h, List.flatMap_cons, flatMap_filter' p f l]
    · rw [if_neg h, if_neg h, flatMap_filter' p f l]; rfl
section
variable {r : Room} (g : Good r) {s : P4} (hs : s.w = 1)
include g hs
theorem newM_eq : ∀ k, newM r.n (uc r) r.h s k = (rowsOf r.walls k).filter (okB r.n (uc r) r.h s)
  | 0 => by simp [newM, rowsOf, okB, LR]
  | k + 1 => by
    unfold newM rowsOf
    rw [newM_eq k, filter_flatMap', flatMap_filter']
    refine flatMap_congr' _ fun l hl => ?_
    have hlt := rowsOf_lt _ _ l hl
    have hlt' : ∀ w ∈ l.reverse, w < r.walls := fun w hw => hlt w (List.mem_reverse.1 hw)
    have hd := (LR_ch g s hs l.reverse hlt').2
    rw [List.filter_map]
    have e : ∀ w ∈ List.range r.walls, (okB r.n (uc r) r.h s ∘ fun w => l ++ [w]) w = (decide (0 < dep (planeM r.n (uc r) r.h w) (hdI s (LR r.n (uc r) r.h s l.reverse))) && okB r.n (uc r) r.h s l) := by
      intro w hw
      have hw := List.mem_range.1 hw
      have k := mirror_eq g hw hd
      have k3 : dep (planeM r.n (uc r) r.h w) (mir (planeM r.n (uc r) r.h w) (hdI s (LR r.n (uc r) r.h s l.reverse))) = - dep (planeM r.n (uc r) r.h w) (hdI s (LR r.n (uc r) r.h s l.reverse)) := k.2.2
      simp only [Function.comp, okB, List.reverse_append, List.reverse_cons, List.reverse_nil, List.nil_append, List.singleton_append, LR, List.all_cons]
      rw [k3]
      congr 1
      apply bool_ext
      simp only [decide_eq_true_eq]
      trivial
    rw [List.filter_congr e]
    by_cases ho : okB r.n (uc r) r.h s l = true
    · rw [if_pos ho]
      simp only [ho, Bool.and_true]
      rfl
    · rw [if_neg ho]
      have : okB r.n (uc r) r.h s l = false := by simpa using ho
      simp only [this, Bool.and_false]
      simp
theorem rowsM_filter (f : List Nat → Bool) (hf : ∀ l, (∀ w ∈ l, w < r.walls) → f l = true → okB r.n (uc r) r.h s l = true) (p : List Nat → Bool) (hp : ∀ l, (∀ w ∈ l, w < r.walls) → okB r.n (uc r) r.h s l = true → p l = f l) (most : Nat) :
    ((List.range (most + 1)).flatMap fun k => (rowsOf r.walls k).filter f) = (rowsM r.n (uc r) r.h s most).filter p := by
  unfold rowsM
  rw [filter_flatMap']
  refine flatMap_congr' _ fun k _ => ?_
  rw [newM_eq g hs, List.filter_filter]
  refine List.filter_congr fun l hl => ?_
  have hlt := rowsOf_lt _ _ l hl
  apply bool_ext
  rw [Bool.and_eq_true]
  constructor
  · intro h
    have := hf l hlt h
    exact ⟨by rw [hp l hlt this]; exact h, this⟩
  · rintro ⟨h1, h2⟩
    rw [hp l hlt h2] at h1; exact h1
end
theorem okB_iff (n : Nat) (u : Nat → V) (h : Int) (s : P4) (l : List Nat) : okB n u h s l = true ↔ ∀ x ∈ LR n u h s l.reverse, dep (planeM n u h x.1) x.2 < 0 := by
  unfold okB; rw [List.all_eq_true]; simp only [decide_eq_true_eq]
theorem rows_eq {r : Room} (g : Good r) (hl : lefty r.n (uc r) 0 = 1) {s e : Whole} (hs : r.inside s.pt = true) (he : r.inside e.pt = true) (most : Nat) :
    ((List.range (most + 1)).flatMap fun k => (rowsOf r.walls k).filter (r.isPath s.pt e.pt)) = (rowsM r.n (uc r) r.h (w4 s) most).filter (fun row => pathM r.n (uc r) r.h (w4 s) row (w4 e)) := by
  refine rowsM_filter g rfl _ (fun l hlt h => ?_) _ (fun l hlt h => ?_) most
  · exact (okB_iff _ _ _ _ _).2 ((path_iff g hl hs he hlt).1 h).1
  · apply bool_ext
    rw [pathM_iff, path_iff g hl hs he hlt]
    exact ⟨fun k => ⟨(okB_iff _ _ _ _ _).1 h, k⟩, fun k => k.2⟩
theorem left_of_fault {n : Nat} {u : Nat → V} (h : linesFault n u = none) : 0 < areaM n u := by
  unfold linesFault at h
  split at h
  · cases h
  split at h
  · cases h
  split at h
  · cases h
  split at h
  · cases h
  · trivial
theorem room_good {room : List Int} (h : roomFault room = none) : Good (roomL room) ∧ lefty (roomL room).n (uc (roomL room)) 0 = 1 ∧ 3 ≤ cn room ∧ cn room ≤ 64 ∧ room.length = 3 + 3 * cn room := by
  unfold roomFault at h
  split at h
  · cases h
  rename_i hl
  split at h
  · cases h
  split at h
  · cases h
  have hl' : lenM room = true := by simpa using hl
  unfold lenM at hl'
  simp only [Bool.and_eq_true, decide_eq_true_eq] at hl'
  obtain ⟨m3, c3, c64⟩ := hl'
  have g := good_of (roomL_n room) (roomL_uc room (by trivial)) c3 h
  refine ⟨g, ?_, c3, c64, ?_⟩
  · have ha := left_of_fault h
    rw [← roomL_n room, ← roomL_uc room (by trivial)] at ha
    exact lefty_one g.poly g.oct ha
  · unfold cn at *; trivial
end Geo
end
section
local macro_rules | `(tactic| trivial) => `(tactic| first | lia -abstractProof | omega)
set_option linter.unusedVariables false
namespace Geo
open Eh
theorem grid_ok (x y z dx dy nx ny : Int) : Grid.ok ⟨x, y, z, dx, dy, nx.toNat, ny.toNat⟩ = gridM nx ny := by
  apply bool_ext
  unfold Grid.ok gridM SIDE
  simp only [Bool.and_eq_true, decide_eq_true_eq]
  trivial
theorem grid_places (x y z dx dy nx ny : Int) (hx : 0 ≤ nx) (hy : 0 ≤ ny) : (Grid.places ⟨x, y, z, dx, dy, nx.toNat, ny.toNat⟩) =
    (List.range (nx * ny).toNat).map fun k => (⟨(placeM x y dx dy nx k).1, (placeM x y dx dy nx k).2, z⟩ : Whole) := by
  unfold Grid.places Grid.size
  simp only
  rw [← Int.toNat_mul hx hy]
  refine List.map_congr_left fun k _ => ?_
  simp only [Grid.place, placeM]
  have e1 : ((k % nx.toNat : Nat) : Int) = (k : Int) % nx := by rw [Int.natCast_emod, Int.toNat_of_nonneg hx]
  have e2 : ((k / nx.toNat : Nat) : Int) = (k : Int) / nx := by rw [Int.natCast_ediv, Int.toNat_of_nonneg hx]
  rw [e1, e2]
theorem inside_room {room : List Int} (h : roomFault room = none) (w : Whole) : insideM (cn room) (cu room) (room.getD 0 0) (w.x, w.y) w.z = (roomL room).inside w.pt := by
  have k := room_good h
  apply bool_ext
  rw [inside_iff k.1, ← withinM_iff k.1, roomL_n, roomL_uc room (by trivial)]
  rfl
end Geo
end
section
local macro_rules | `(tactic| trivial) => `(tactic| first | lia -abstractProof | omega)
set_option linter.unusedVariables false
namespace Geo
def imF (n : Nat) (u : Nat → V) (h : Int) (s : P4) (row : List Nat) : List P4 := s :: ((LR n u h s row.reverse).map Prod.snd).reverse
theorem imF_len (n : Nat) (u : Nat → V) (h : Int) (s : P4) (row : List Nat) : (imF n u h s row).length = row.length + 1 := by
  unfold imF; rw [List.length_cons, List.length_reverse, List.length_map, LR_len, List.length_reverse]
theorem LR_get (n : Nat) (u : Nat → V) (h : Int) (s : P4) (row : List Nat) {t : Nat} (ht : t < row.length) :
    ∃ w i, (LR n u h s row.reverse)[t]? = some (w, i) ∧ row[row.length - 1 - t]? = some w ∧ (imF n u h s row)[row.length - t]? = some i := by
  have hl : t < (LR n u h s row.reverse).length := by rw [LR_len, List.length_reverse]; exact ht
  refine ⟨((LR n u h s row.reverse)[t]).1, ((LR n u h s row.reverse)[t]).2, List.getElem?_eq_getElem hl, ?_, ?_⟩
  · have e : ((LR n u h s row.reverse).map Prod.fst)[t]? = some ((LR n u h s row.reverse)[t]).1 := by
      rw [List.getElem?_map, List.getElem?_eq_getElem hl]; rfl
    rw [LR_fst, List.getElem?_reverse ht] at e
    exact e
  · unfold imF
    rw [show row.length - t = (row.length - 1 - t) + 1 by trivial, List.getElem?_cons_succ]
    have hm : ((LR n u h s row.reverse).map Prod.snd).length = row.length := by rw [List.length_map, LR_len, List.length_reverse]
    rw [List.getElem?_reverse (by rw [hm]; trivial), hm, show row.length - 1 - (row.length - 1 - t) = t by trivial, List.getElem?_map, List.getElem?_eq_getElem hl]
    rfl
theorem imF_last (n : Nat) (u : Nat → V) (h : Int) (s : P4) (row : List Nat) : (imF n u h s row)[row.length]? = some (hdI s (LR n u h s row.reverse)) := by
  by_cases hr : row.length = 0
  · have : row = [] := by simpa using hr
    subst this
    rfl
  · obtain ⟨w, i, h1, _, h3⟩ := LR_get n u h s row (t := 0) (by trivial)
    rw [Nat.sub_zero] at h3
    rw [h3]
    cases e : LR n u h s row.reverse with
    | nil => rw [e] at h1; simp at h1
    | cons x m => rw [e] at h1; simp at h1; rw [h1]; rfl
theorem imF_snoc (n : Nat) (u : Nat → V) (h : Int) (s : P4) (row : List Nat) (w : Nat) : imF n u h s (row ++ [w]) = imF n u h s row ++ [mir (planeM n u h w) (hdI s (LR n u h s row.reverse))] := by
  unfold imF
  rw [List.reverse_append, List.reverse_singleton, List.singleton_append]
  simp only [LR, List.map_cons, List.reverse_cons, List.cons_append]
theorem LR_mem_im (n : Nat) (u : Nat → V) (h : Int) (s : P4) (row : List Nat) {x : Nat × P4} (hx : x ∈ LR n u h s row.reverse) : x.1 ∈ row ∧ x.2 ∈ imF n u h s row := by
  constructor
  · have : x.1 ∈ (LR n u h s row.reverse).map Prod.fst := List.mem_map.2 ⟨x, hx, rfl⟩
    rw [LR_fst] at this
    exact List.mem_reverse.1 this
  · unfold imF
    exact List.mem_cons_of_mem _ (List.mem_reverse.2 (List.mem_map.2 ⟨x, hx, rfl⟩))
end Geo
end
section
local macro_rules | `(tactic| trivial) => `(tactic| first | lia -abstractProof | omega)
set_option linter.unusedVariables false
namespace Geo
open Eh
theorem rootFrom_spec (n : Nat) : ∀ (k s : Nat), s * s ≤ n → n < (s + 2 ^ k) * (s + 2 ^ k) → (rootFrom k n s) * (rootFrom k n s) ≤ n ∧ n < (rootFrom k n s + 1) * (rootFrom k n s + 1)
  | 0, s, h1, h2 => by unfold rootFrom; exact ⟨h1, by simpa using h2⟩
  | k + 1, s, h1, h2 => by
    unfold rootFrom
    by_cases h : (s + 2 ^ k) * (s + 2 ^ k) ≤ n
    · rw [if_pos h]
      refine rootFrom_spec n k _ h ?_
      rw [Nat.add_assoc, ← Nat.two_mul, Nat.mul_comm 2, ← Nat.pow_succ]; exact h2
    · rw [if_neg h]
      exact rootFrom_spec n k _ h1 (by omega)
theorem root_spec (n : Nat) : root n * root n ≤ n ∧ n < (root n + 1) * (root n + 1) := by
  unfold root
  refine rootFrom_spec n _ 0 (by simp) ?_
  rw [Nat.zero_add, ← Nat.pow_add]
  by_cases h : n = 0
  · subst h; exact Nat.pow_pos (by omega)
  · have h1 : n < 2 ^ (n.log2 + 1) := Nat.lt_log2_self
    exact Nat.lt_of_lt_of_le h1 (Nat.pow_le_pow_right (by omega) (by omega))
theorem root_uniq {n r : Nat} (h1 : r * r ≤ n) (h2 : n < (r + 1) * (r + 1)) : r = root n := by
  have k := root_spec n
  have a : r < root n + 1 := by
    refine Nat.lt_of_not_le fun h => ?_
    have := Nat.mul_le_mul h h
    omega
  have b : root n < r + 1 := by
    refine Nat.lt_of_not_le fun h => ?_
    have := Nat.mul_le_mul h h
    omega
  omega
theorem root_mono {n m : Nat} (h : n ≤ m * m) : root n ≤ m := by
  have k := root_spec n
  refine Nat.le_of_not_lt fun h' => ?_
  have := Nat.mul_le_mul (Nat.succ_le_of_lt h') (Nat.succ_le_of_lt h')
  have e : (m + 1) * (m + 1) = m * m + 2 * m + 1 := by grind
  have : (m + 1) * (m + 1) ≤ root n * root n := this
  omega
def prodN (l : List Nat) : Nat := l.foldr (fun (x y : Nat) => x * y) 1
def partsM (stuffs : List Nat) (sq band : Nat) (book : List Int) : List Nat := stuffs.map (fun st => (book.getD (4 * st + band) 0).toNat) ++ List.replicate (root sq / 1024) (book.getD (32 + band) 0).toNat
def gainM (stuffs : List Nat) (sq band : Nat) (book : List Int) : Nat := nearestOverRoot (2 ^ 32 * prodN (partsM stuffs sq band book)) (32768 ^ (partsM stuffs sq band book).length) (max sq 1)
theorem prodN_le : ∀ l : List Nat, (∀ x ∈ l, x ≤ 32768) → prodN l ≤ 32768 ^ l.length
  | [], _ => by simp [prodN]
  | x :: l, h => by
    have h1 := h x (by simp)
    have h2 := prodN_le l (fun y hy => h y (List.mem_cons_of_mem _ hy))
    show x * prodN l ≤ 32768 ^ (l.length + 1)
    rw [Nat.pow_succ, Nat.mul_comm (32768 ^ l.length)]
    exact Nat.mul_le_mul h1 h2
theorem gainM_le {stuffs : List Nat} {sq band : Nat} {book : List Int} (h : ∀ x ∈ partsM stuffs sq band book, x ≤ 32768) : gainM stuffs sq band book ≤ 2 ^ 32 := by
  have hp := prodN_le _ h
  unfold gainM nearestOverRoot
  generalize prodN (partsM stuffs sq band book) = p at *
  have hd : 0 < 32768 ^ (partsM stuffs sq band book).length := Nat.pow_pos (by omega)
  generalize 32768 ^ (partsM stuffs sq band book).length = d at *
  have key : root (4 * (2 ^ 32 * p) * (2 ^ 32 * p) / (d * d * max sq 1)) ≤ 2 * 2 ^ 32 := by
    apply root_mono
    refine Nat.div_le_of_le_mul ?_
    have h1 : (2 ^ 32 * p) * (2 ^ 32 * p) ≤ (2 ^ 32 * d) * (2 ^ 32 * d) := Nat.mul_le_mul (Nat.mul_le_mul_left _ hp) (Nat.mul_le_mul_left _ hp)
    have h2 : d * d * 1 ≤ d * d * max sq 1 := Nat.mul_le_mul_left _ (by omega)
    have h3 := Nat.mul_le_mul_right (2 * 2 ^ 32 * (2 * 2 ^ 32)) h2
    have e1 : 4 * (2 ^ 32 * p) * (2 ^ 32 * p) = 4 * ((2 ^ 32 * p) * (2 ^ 32 * p)) := Nat.mul_assoc _ _ _
    have e2 : d * d * 1 * (2 * 2 ^ 32 * (2 * 2 ^ 32)) = 4 * ((2 ^ 32 * d) * (2 ^ 32 * d)) := by grind
    rw [e1]
    omega
  omega
theorem squares_cons (x : Nat) (l : List Nat) : squares (x :: l) = x * x + squares l := rfl
theorem squares_insert {α : Type} (g : α → α → Bool) (f : α → Nat) (x : α) : ∀ l : List α, squares ((insertBy g x l).map f) = f x * f x + squares (l.map f)
  | [] => rfl
  | y :: l => by
    unfold insertBy
    split
    · rfl
    · rw [List.map_cons, squares_cons, squares_insert g f x l, List.map_cons, squares_cons]; omega
theorem squares_sorted {α : Type} (g : α → α → Bool) (f : α → Nat) : ∀ l : List α, squares ((l.foldr (insertBy g) []).map f) = squares (l.map f)
  | [] => rfl
  | x :: l => by rw [List.foldr_cons, squares_insert, squares_sorted g f l, List.map_cons, squares_cons]
def sqM (p e : P4) : Int := (p.x - e.x) ^ 2 + (p.y - e.y) ^ 2 + (p.z - e.z) ^ 2
theorem length2_eq {r : Room} (g : Good r) (s e : Whole) {row : List Nat} (hr : ∀ w ∈ row, w < r.walls) : (r.length2 s.pt e.pt row).floor = sqM (hdI (w4 s) (LR r.n (uc r) r.h (w4 s) row.reverse)) (w4 e) := by
  have hr' : ∀ w ∈ row.reverse, w < r.walls := fun w hw => hr w (List.mem_reverse.1 hw)
  obtain ⟨l, h1, h2, _⟩ := images_eq g (w4 s) rfl row.reverse hr'
  have hd := (LR_ch g (w4 s) rfl row.reverse hr').2
  have e1 : r.images s.pt row = l := by
    unfold Room.images
    rw [List.foldl_eq_foldr_reverse, ← h1, pt4_w4]
  unfold Room.length2
  rw [e1]
  have e2 : l.headD s.pt = pt4 (hdI (w4 s) (LR r.n (uc r) r.h (w4 s) row.reverse)) := by rw [← h2, pt4_w4]
  rw [e2, pt4_one hd]
  have e3 : dist2 ⟨((hdI (w4 s) (LR r.n (uc r) r.h (w4 s) row.reverse)).x : Rat), ((hdI (w4 s) (LR r.n (uc r) r.h (w4 s) row.reverse)).y : Rat), ((hdI (w4 s) (LR r.n (uc r) r.h (w4 s) row.reverse)).z : Rat)⟩ e.pt = ((sqM (hdI (w4 s) (LR r.n (uc r) r.h (w4 s) row.reverse)) (w4 e) : Int) : Rat) := by
    generalize hdI (w4 s) (LR r.n (uc r) r.h (w4 s) row.reverse) = i
    simp only [dist2, sqM, w4, Whole.pt]
    push_cast
    grind
  rw [e3, Rat.floor_intCast]
theorem energy_eq {r : Room} (g : Good r) (hl : lefty r.n (uc r) 0 = 1) (b : Book) {s e : Whole} (hs : r.inside s.pt = true) (he : r.inside e.pt = true) (most band : Nat) :
    energyAt r b s e most band = squares (((rowsM r.n (uc r) r.h (w4 s) most).filter (fun row => pathM r.n (uc r) r.h (w4 s) row (w4 e))).map fun row => gain r b band (sqM (hdI (w4 s) (LR r.n (uc r) r.h (w4 s) row.reverse)) (w4 e)).toNat row) := by
  unfold energyAt Room.paths
  rw [squares_sorted, List.map_map, ← rows_eq g hl hs he]
  congr 1
  refine List.map_congr_left fun row hrow => ?_
  have hlt : ∀ w ∈ row, w < r.walls := by
    rw [List.mem_flatMap] at hrow
    obtain ⟨k, _, hk⟩ := hrow
    exact rowsOf_lt _ _ row (List.mem_filter.1 hk).1
  simp only [Function.comp, gainOf]
  rw [length2_eq g s e hlt]
def lvOk (e : Nat) (d : Int) : Bool := if 0 ≤ d then decide (10 ^ d.toNat * 2 ^ 480 ≤ e ^ 10) else decide (2 ^ 480 ≤ e ^ 10 * 10 ^ (-d).toNat)
theorem lvOk_step {e : Nat} {d : Int} (h : lvOk e d = true) : lvOk e (d - 1) = true := by
  unfold lvOk at *
  by_cases h0 : 0 ≤ d
  · rw [if_pos h0, decide_eq_true_eq] at h
    by_cases h1 : 0 ≤ d - 1
    · rw [if_pos h1, decide_eq_true_eq]
      have e1 : d.toNat = (d - 1).toNat + 1 := by omega
      rw [e1, Nat.pow_succ] at h
      have : 10 ^ (d - 1).toNat * 2 ^ 480 ≤ 10 ^ (d - 1).toNat * 10 * 2 ^ 480 := Nat.mul_le_mul_right _ (by omega)
      omega
    · rw [if_neg h1, decide_eq_true_eq]
      have e1 : d = 0 := by omega
      subst e1
      simp only [Int.toNat_zero, Nat.pow_zero, Nat.one_mul] at h
      have e2 : (-((0 : Int) - 1)).toNat = 1 := by decide
      rw [e2]
      omega
  · rw [if_neg h0, decide_eq_true_eq] at h
    rw [if_neg (by omega), decide_eq_true_eq]
    have e1 : (-(d - 1)).toNat = (-d).toNat + 1 := by omega
    have e2 : 10 ^ ((-d).toNat + 1) = 10 ^ (-d).toNat * 10 := Nat.pow_succ _ _
    rw [e1, e2, ← Nat.mul_assoc]
    omega
theorem lvOk_down {e : Nat} {d : Int} (h : lvOk e d = true) : ∀ k : Nat, lvOk e (d - k) = true
  | 0 => by simpa using h
  | k + 1 => by
    have := lvOk_step (lvOk_down h k)
    rwa [show d - ((k + 1 : Nat) : Int) = d - k - 1 by omega]
theorem find_first {p : Int → Bool} {d : Int} (hp : p d = true) (hn : ∀ d', d < d' → p d' = false) : ∀ (n : Nat) (t : Int), d ≤ t → t - n < d → ((List.range n).map fun (i : Nat) => t - i).find? p = some d
  | 0, t, h1, h2 => by omega
  | n + 1, t, h1, h2 => by
    rw [List.range_succ_eq_map, List.map_cons, List.map_map, List.find?_cons]
    by_cases e : t = d
    · subst e
      have e0 : t - ((0 : Nat) : Int) = t := by omega
      rw [e0, hp]
    · have h3 : p (t - ((0 : Nat) : Int)) = false := hn _ (by omega)
      rw [h3]
      have := find_first hp hn n (t - 1) (by omega) (by omega)
      simp only
      rw [← this]
      congr 1
      refine List.map_congr_left fun i _ => ?_
      simp only [Function.comp]
      omega
theorem energyLevel_eq {e : Nat} {d : Int} (he : e ≠ 0) (h1 : lvOk e d = true) (h2 : lvOk e (d + 1) = false) (h3 : d ≤ 500) (h4 : -199 ≤ d) : energyLevel e = some d := by
  unfold energyLevel
  rw [if_neg he]
  refine find_first (p := lvOk e) h1 (fun d' hd => ?_) 700 500 h3 (by omega)
  refine Bool.eq_false_iff.2 fun hc => ?_
  have := lvOk_down hc (d' - (d + 1)).toNat
  rw [show d' - (((d' - (d + 1)).toNat : Nat) : Int) = d + 1 by omega, h2] at this
  cases this
end Geo
end
section
local macro_rules | `(tactic| trivial) => `(tactic| first | lia -abstractProof | omega)
set_option linter.unusedVariables false
namespace Geo
open Eh
structure Mag (M : Int) (p : P4) : Prop where
  x1 : -M ≤ p.x
  x2 : p.x ≤ M
  y1 : -M ≤ p.y
  y2 : p.y ≤ M
  z1 : -M ≤ p.z
  z2 : p.z ≤ M
theorem mir_mag {r : Room} (g : Good r) (hc : ∀ i, 0 ≤ (uc r i).1 ∧ (uc r i).1 ≤ 4095 ∧ 0 ≤ (uc r i).2 ∧ (uc r i).2 ≤ 4095) (hh : 0 ≤ r.h ∧ r.h ≤ 4095) {w : Nat} {p : P4} {M : Int} (hp : Mag M p) (hw : p.w = 1) : Mag (M + 8190) (mir (pl r w) p) := by
  obtain ⟨x1, x2, y1, y2, z1, z2⟩ := hp
  have half : ∀ z : Int, 2 * z / 2 = z := by intro z; omega
  have one : ∀ z : Int, 2 * z / 1 = 2 * z := by intro z; omega
  by_cases h : w < r.n
  · obtain ⟨ux, uy, e, hk⟩ := plane_kind g h
    have c := hc w
    rw [e]
    rcases hk with ⟨rfl, h1, rfl | rfl⟩ | ⟨rfl, h1, h3, rfl | rfl⟩ | ⟨h1, h2, h3, ⟨rfl, rfl⟩ | ⟨rfl, rfl⟩⟩ | ⟨h1, h2, h3, ⟨rfl, rfl⟩ | ⟨rfl, rfl⟩⟩ <;>
      constructor <;> simp only [mir, nsq, dep, hw] <;> simp [half, one] <;> omega
  · by_cases h2 : w = r.n
    · have e : pl r w = ⟨0, 0, 1, 0⟩ := by simp only [pl, planeM, if_neg h, if_pos h2]
      rw [e]
      constructor <;> simp only [mir, nsq, dep, hw] <;> simp [half, one] <;> omega
    · have e : pl r w = ⟨0, 0, -1, r.h⟩ := by simp only [pl, planeM, if_neg h, if_neg h2]
      rw [e]
      constructor <;> simp only [mir, nsq, dep, hw] <;> simp [half, one] <;> omega
theorem LR_mag {r : Room} (g : Good r) (hc : ∀ i, 0 ≤ (uc r i).1 ∧ (uc r i).1 ≤ 4095 ∧ 0 ≤ (uc r i).2 ∧ (uc r i).2 ≤ 4095) (hh : 0 ≤ r.h ∧ r.h ≤ 4095) {s : P4} (hs : Mag 4095 s) (hw : s.w = 1) :
    ∀ m : List Nat, (∀ w ∈ m, w < r.walls) → Mag (4095 + 8190 * m.length) (hdI s (LR r.n (uc r) r.h s m))
  | [], _ => by simpa [LR, hdI] using hs
  | w :: m, h => by
    have ih := LR_mag g hc hh hs hw m (fun x hx => h x (List.mem_cons_of_mem _ hx))
    have k := mir_mag g hc hh (w := w) ih (LR_ch g s hw m (fun x hx => h x (List.mem_cons_of_mem _ hx))).2
    have e : (4095 + 8190 * ((w :: m).length : Int)) = 4095 + 8190 * (m.length : Int) + 8190 := by rw [List.length_cons]; omega
    rw [e]
    exact k
theorem wn_left {n : Nat} {v : Nat → V} (per : ∀ i, v (i + n) = v i) {p : V} (h : ∀ j, p.1 < (v j).1) : wn n v p = 0 := by
  have key : ∀ j, sg (v j) (v (j + 1)) p = (if p.2 < (v (j + 1)).2 then 1 else 0) - (if p.2 < (v j).2 then 1 else 0) := by
    intro j
    have h1 := h j
    have h2 := h (j + 1)
    have r1 := fun (a : (v j).2 ≤ p.2) (b : p.2 < (v (j + 1)).2) => right_of (v j) (v (j + 1)) p a b h1 h2
    have r2 := fun (a : (v (j + 1)).2 ≤ p.2) (b : p.2 < (v j).2) => right_of (v (j + 1)) (v j) p a b h2 h1
    have sw := sd_swap (v j) (v (j + 1)) p
    unfold sg
    by_cases c1 : (v j).2 ≤ p.2 <;> by_cases c2 : (v (j + 1)).2 ≤ p.2
    · (repeat' split) <;> omega
    · have := r1 c1 (by omega)
      (repeat' split) <;> omega
    · have := r2 c2 (by omega)
      (repeat' split) <;> omega
    · (repeat' split) <;> omega
  unfold wn
  rw [sumN_congr n (fun j _ => key j), sumN_tele (fun j => if p.2 < (v j).2 then (1 : Int) else 0)]
  have : v n = v 0 := by have := per 0; simpa using this
  rw [this]; omega
theorem inside_box {n : Nat} {u : Nat → V} (per : ∀ i, u (i + n) = u i) (hc : ∀ i, 0 ≤ (u i).1 ∧ (u i).1 ≤ 4095 ∧ 0 ≤ (u i).2 ∧ (u i).2 ≤ 4095) {p : V} (h : wn n u p ≠ 0) : 0 ≤ p.1 ∧ p.1 ≤ 4095 ∧ 0 ≤ p.2 ∧ p.2 ≤ 4095 := by
  refine ⟨?_, ?_, ?_, ?_⟩
  · refine Int.not_lt.1 fun c => h (wn_left per (fun j => by have := hc j; omega))
  · refine Int.not_lt.1 fun c => h ?_
    unfold wn
    exact sumN_zero n (fun j _ => sg_far (by have := hc j; omega) (by have := hc (j + 1); omega))
  · refine Int.not_lt.1 fun c => h ?_
    unfold wn
    refine sumN_zero n (fun j _ => ?_)
    have h1 := hc j
    have h2 := hc (j + 1)
    unfold sg
    rw [if_neg (by omega), if_neg (by omega)]; rfl
  · refine Int.not_lt.1 fun c => h ?_
    unfold wn
    refine sumN_zero n (fun j _ => ?_)
    have h1 := hc j
    have h2 := hc (j + 1)
    unfold sg
    rw [if_neg (by omega), if_neg (by omega)]; rfl
theorem insideM_mag {n : Nat} {u : Nat → V} {h : Int} (per : ∀ i, u (i + n) = u i) (hc : ∀ i, 0 ≤ (u i).1 ∧ (u i).1 ≤ 4095 ∧ 0 ≤ (u i).2 ∧ (u i).2 ≤ 4095) (hh : h ≤ 4095) {p : V} {z : Int} (hi : insideM n u h p z = true) : Mag 4095 ⟨p.1, p.2, z, 1⟩ := by
  unfold insideM withinM at hi
  simp only [Bool.and_eq_true, decide_eq_true_eq] at hi
  have := inside_box per hc hi.2.2
  constructor <;> simp only <;> omega
theorem mul_bnd {a b B : Int} (h1 : -B ≤ a) (h2 : a ≤ B) (hB : 0 ≤ B) : a ^ 2 ≤ B * B ∧ 0 ≤ a ^ 2 := by
  have e : a ^ 2 = a * a := by grind
  rw [e]
  have h3 : 0 ≤ (B - a) * (B + a) := Int.mul_nonneg (by omega) (by omega)
  have e2 : (B - a) * (B + a) = B * B - a * a := by grind
  have := sq_nonneg a
  omega
theorem sqM_bnd {p e : P4} {M : Int} (hp : Mag M p) (he : Mag 4095 e) (hM : 0 ≤ M) : 0 ≤ sqM p e ∧ sqM p e ≤ 3 * ((M + 4095) * (M + 4095)) := by
  have a := mul_bnd (a := p.x - e.x) (b := 0) (B := M + 4095) (by have := hp.x1; have := he.x2; omega) (by have := hp.x2; have := he.x1; omega) (by omega)
  have b := mul_bnd (a := p.y - e.y) (b := 0) (B := M + 4095) (by have := hp.y1; have := he.y2; omega) (by have := hp.y2; have := he.y1; omega) (by omega)
  have c := mul_bnd (a := p.z - e.z) (b := 0) (B := M + 4095) (by have := hp.z1; have := he.z2; omega) (by have := hp.z2; have := he.z1; omega) (by omega)
  unfold sqM
  omega
def stuffN (ns : List Int) (w : Nat) : Nat := if w < cn ns then (ns.getD (3 + 3 * w + 2) 0).toNat else if w = cn ns then (ns.getD 1 0).toNat else (ns.getD 2 0).toNat
theorem stuffOf_eq {z : Int} (h : 0 ≤ z) : stuffOf z = z.toNat := by unfold stuffOf; rw [if_neg (by omega)]
theorem stuff_eq {ns : List Int} (hc : ∀ i, i < cn ns → cornerM ns i = true) (hh : headM ns = true) (h3 : 3 ≤ cn ns) (w : Nat) : (roomL ns).stuff w = stuffN ns w ∧ stuffN ns w ≤ 7 := by
  have hh' := hh
  unfold headM stuffM at hh'
  simp only [Bool.and_eq_true, decide_eq_true_eq] at hh'
  unfold Room.stuff stuffN
  rw [roomL_n]
  by_cases h : w < cn ns
  · rw [if_pos h, if_pos h, roomL_corner ns (by omega), Nat.mod_eq_of_lt h]
    have c := hc w h
    unfold cornerM stuffM at c
    simp only [Bool.and_eq_true, decide_eq_true_eq] at c
    exact ⟨stuffOf_eq c.2.2.1, by omega⟩
  · rw [if_neg h, if_neg h]
    by_cases h2 : w = cn ns
    · rw [if_pos h2, if_pos h2]
      exact ⟨stuffOf_eq hh'.2.1.1, by omega⟩
    · rw [if_neg h2, if_neg h2]
      exact ⟨stuffOf_eq hh'.2.2.1, by omega⟩
def bookN (book : List Int) : Book := ⟨(PlNeutral.nats book).take 32, (PlNeutral.nats book).drop 32⟩
theorem nats_getD (book : List Int) (i : Nat) : (PlNeutral.nats book).getD i 0 = (book.getD i 0).toNat := by
  unfold PlNeutral.nats
  rw [List.getD_eq_getElem?_getD, List.getD_eq_getElem?_getD, List.getElem?_map]
  cases book[i]? <;> rfl
theorem gain_eq {ns book : List Int} (hc : ∀ i, i < cn ns → cornerM ns i = true) (hh : headM ns = true) (h3 : 3 ≤ cn ns) {band sq : Nat} (hb : band ≤ 3) (row : List Nat) :
    gain (roomL ns) (bookN book) band sq row = gainM (row.map (stuffN ns)) sq band book := by
  have key : (row.map (fun (w : Nat) => (bookN book).backOf ((roomL ns).stuff w) band) ++ List.replicate (farBy sq) ((bookN book).airOf band)) = partsM (row.map (stuffN ns)) sq band book := by
    unfold partsM farBy
    rw [List.map_map]
    congr 1
    · refine List.map_congr_left fun w _ => ?_
      have k := stuff_eq hc hh h3 w
      simp only [Function.comp]
      unfold Book.backOf bookN BANDS
      simp only
      rw [k.1, ← nats_getD, List.getD_eq_getElem?_getD, List.getD_eq_getElem?_getD, List.getElem?_take, if_pos (by omega)]
    · congr 1
      unfold Book.airOf bookN
      simp only
      rw [← nats_getD, List.getD_eq_getElem?_getD, List.getD_eq_getElem?_getD, List.getElem?_drop]
  unfold gain part gainM prodN WHOLE
  simp only
  rw [key]
end Geo
end
section
namespace Pr
open PySem
def top (i : Nat) : Stmt := PySem.Challenge.pw_hearingplaces_s03_level.main.body.getD i (.Pass ⟨0, 0, 0, 0⟩)
abbrev st_book_fault : Stmt := top 9
abbrev st_root : Stmt := top 10
abbrev st_parts_left : Stmt := top 11
abbrev st_gain : Stmt := top 12
abbrev st_level_of : Stmt := top 13
abbrev st_side : Stmt := top 20
abbrev st_spans_meet : Stmt := top 21
abbrev st_lines_meet : Stmt := top 22
abbrev st_corners_of : Stmt := top 23
abbrev st_lines_of : Stmt := top 24
abbrev st_is_stuff : Stmt := top 25
abbrev st_is_length_right : Stmt := top 26
abbrev st_is_head_right : Stmt := top 27
abbrev st_is_corner_right : Stmt := top 28
abbrev st_is_direction_right : Stmt := top 29
abbrev st_wrong_corner : Stmt := top 30
abbrev st_wrong_direction : Stmt := top 31
abbrev st_straight_corner : Stmt := top 32
abbrev st_meets_far_line : Stmt := top 33
abbrev st_crossed_line : Stmt := top 34
abbrev st_is_room_left : Stmt := top 35
abbrev st_lines_fault : Stmt := top 36
abbrev st_room_fault : Stmt := top 37
abbrev st_is_within : Stmt := top 38
abbrev st_is_inside : Stmt := top 39
abbrev st_whole_point : Stmt := top 41
abbrev st_sign : Stmt := top 42
abbrev st_plane_of_line : Stmt := top 43
abbrev st_walls_of : Stmt := top 44
abbrev st_stuffs_of : Stmt := top 45
abbrev st_depth : Stmt := top 46
abbrev st_mirrored : Stmt := top 47
abbrev st_crossing : Stmt := top 48
abbrev st_rows_of_walls : Stmt := top 49
abbrev st_is_between_corners : Stmt := top 50
abbrev st_may_turn_at : Stmt := top 51
abbrev st_points_by : Stmt := top 52
abbrev st_is_leg_clear : Stmt := top 53
abbrev st_is_path : Stmt := top 54
abbrev st_square_length : Stmt := top 55
abbrev st_paths_to : Stmt := top 56
abbrev st_is_grid_right : Stmt := top 61
abbrev st_grid_places : Stmt := top 62
abbrev st_refusal : Stmt := top 63
abbrev st_paths_over : Stmt := top 64
abbrev st_energy_of : Stmt := top 65
abbrev st_energies_over : Stmt := top 66
abbrev st_level : Stmt := top 67
end Pr
end
section
local macro_rules | `(tactic| trivial) => `(tactic| first | lia -abstractProof | omega)
set_option Elab.async false
set_option linter.all false
set_option maxRecDepth 100000
set_option maxHeartbeats 2000000
namespace Pr
open PySem PySem.Spec PyProof.Rows L2
abbrev ib (z : Int) : Nat := Builtin.Int.intBits z
def CMulB (i j : Int) : Prop := ib i ≤ 1000000 ∧ ib j ≤ 1000000
theorem op_mulB {X : Cx} : OpR X (binaryOp .Mult) (rI CMulB fun i j => .int (i * j)) := opI fun _ _ _ _ _ _ _ hc q => mul_int q (IntMulOk.of_le hc.1 hc.2 (by decide))
structure Bt (p : Geo.V) : Prop where
  x : ib p.1 ≤ 100000
  y : ib p.2 ≤ 100000
theorem dif_bits {a b : Int} (ha : ib a ≤ 100000) (hb : ib b ≤ 100000) : ib (a - b) ≤ 1000000 := Nat.le_trans (intBits_sub_le ha hb) (by decide)
theorem prod_bits {a b c d : Int} (ha : ib a ≤ 100000) (hb : ib b ≤ 100000) (hc : ib c ≤ 100000) (hd : ib d ≤ 100000) : ib ((a - b) * (c - d)) ≤ 200002 :=
  Nat.le_trans (intBits_mul_le (intBits_sub_le ha hb) (intBits_sub_le hc hd)) (by decide)
theorem sd_bits {a b p : Geo.V} (ha : Bt a) (hb : Bt b) (hp : Bt p) : ib (Geo.sd a b p) ≤ 1000000 :=
  Nat.le_trans (intBits_sub_le (prod_bits hb.x ha.x hp.y ha.y) (prod_bits hb.y ha.y hp.x ha.x)) (by decide)
theorem iteB {c : Bool} {A B : Prop} (h1 : c = true → A) (h2 : c = false → B) : if c = true then A else B := by
  cases c with
  | true => rw [if_pos rfl]; exact h1 rfl
  | false => rw [if_neg Bool.false_ne_true]; exact h2 rfl
theorem Same.tup {K : PySem.W.Frag} {H H' : Hp} {a : Addr} {xs : List L2.V} (e : Same H H') (h : SqT K H a xs) : SqT K H' a xs := by
  rcases h with (h | ⟨o, h⟩) | h
  · exact .inl (.inl (e _ _ h))
  · exact .inl (.inr ⟨o, e _ _ h⟩)
  · exact .inr h
theorem Same.upd {H H' : Hp} {l : Addr} {o : HO} (e : Same H H') (h : H' l = none) : Same H (upd H' l o) := fun b o' q => by
  rw [upd_ne (ne_of_none (e b o' q) h)]
  exact e b o' q
def CoAt (K : PySem.W.Frag) (H : Hp) (v : L2.V) (i : Nat) (c : Int) : Prop := ∃ a xs, v = L2.V.ref a ∧ SqT K H a xs ∧ xs[i]? = some (.int c)
def PtAt (K : PySem.W.Frag) (H : Hp) (v : L2.V) (p : Geo.V) : Prop := ∃ a xs, v = L2.V.ref a ∧ SqT K H a xs ∧ xs[0]? = some (.int p.1) ∧ xs[1]? = some (.int p.2)
def LineAt (K : PySem.W.Frag) (H : Hp) (v : L2.V) (a b : Geo.V) : Prop := ∃ l va vb, v = L2.V.ref l ∧ SqT K H l [va, vb] ∧ PtAt K H va a ∧ PtAt K H vb b
def LinesAt (K : PySem.W.Frag) (H : Hp) (v : L2.V) (n : Nat) (u : Nat → Geo.V) : Prop := ∃ l vs, v = L2.V.ref l ∧ SqL K H l vs ∧ vs.length = n ∧ ∀ i x, vs[i]? = some x → LineAt K H x (u i) (u (i + 1))
def RoomAt (K : PySem.W.Frag) (H : Hp) (v : L2.V) (ns : List Int) : Prop := ∃ l, v = L2.V.ref l ∧ SqL K H l (ns.map L2.V.int)
theorem PtAt.co0 {K : PySem.W.Frag} {H : Hp} {v : L2.V} {p : Geo.V} (h : PtAt K H v p) : CoAt K H v 0 p.1 := by
  obtain ⟨a, xs, e, s, h0, h1⟩ := h; exact ⟨a, xs, e, s, h0⟩
theorem PtAt.co1 {K : PySem.W.Frag} {H : Hp} {v : L2.V} {p : Geo.V} (h : PtAt K H v p) : CoAt K H v 1 p.2 := by
  obtain ⟨a, xs, e, s, h0, h1⟩ := h; exact ⟨a, xs, e, s, h1⟩
theorem PtAt.mono {K : PySem.W.Frag} {H H' : Hp} {v : L2.V} {p : Geo.V} (s : Same H H') (h : PtAt K H v p) : PtAt K H' v p := by
  obtain ⟨a, xs, e, q, h0, h1⟩ := h; exact ⟨a, xs, e, Same.tup s q, h0, h1⟩
theorem CoAt.mono {K : PySem.W.Frag} {H H' : Hp} {v : L2.V} {i : Nat} {c : Int} (s : Same H H') (h : CoAt K H v i c) : CoAt K H' v i c := by
  obtain ⟨a, xs, e, q, h0⟩ := h; exact ⟨a, xs, e, Same.tup s q, h0⟩
theorem LineAt.mono {K : PySem.W.Frag} {H H' : Hp} {v : L2.V} {a b : Geo.V} (s : Same H H') (h : LineAt K H v a b) : LineAt K H' v a b := by
  obtain ⟨l, va, vb, e, q, h0, h1⟩ := h; exact ⟨l, va, vb, e, Same.tup s q, h0.mono s, h1.mono s⟩
theorem LinesAt.mono {K : PySem.W.Frag} {H H' : Hp} {v : L2.V} {n : Nat} {u : Nat → Geo.V} (s : Same H H') (h : LinesAt K H v n u) : LinesAt K H' v n u := by
  obtain ⟨l, vs, e, q, hl, h⟩ := h; exact ⟨l, vs, e, s.seq q, hl, fun i x hx => (h i x hx).mono s⟩
theorem RoomAt.mono {K : PySem.W.Frag} {H H' : Hp} {v : L2.V} {ns : List Int} (s : Same H H') (h : RoomAt K H v ns) : RoomAt K H' v ns := by
  obtain ⟨l, e, q⟩ := h; exact ⟨l, e, s.seq q⟩
theorem at0 {α : Type} {xs : List α} {v : α} (h : xs[0]? = some v) : atI xs 0 = some v := atI_nat (j := 0) h
theorem at1 {α : Type} {xs : List α} {v : α} (h : xs[1]? = some v) : atI xs 1 = some v := atI_nat (j := 1) h
theorem at2 {α : Type} {xs : List α} {v : α} (h : xs[2]? = some v) : atI xs 2 = some v := atI_nat (j := 2) h
theorem room_at {ns : List Int} {i : Nat} (h : i < ns.length) : (ns.map L2.V.int)[i]? = some (.int (ns.getD i 0)) := by
  rw [List.getElem?_map, List.getD_eq_getElem?_getD, List.getElem?_eq_getElem h]; rfl
structure Txt (mg : Str → Option Value) : Prop where
  head : ∃ t, mg "HEAD" = some (.int 3 t)
  least : ∃ t, mg "LEAST_CORNERS" = some (.int 3 t)
  most : ∃ t, mg "MOST_CORNERS" = some (.int 64 t)
  length : ∃ t, mg "LARGEST_LENGTH" = some (.int 4095 t)
  stuff : ∃ t, mg "LARGEST_STUFF" = some (.int 7 t)
  range : mg "range" = none
  len : mg "len" = none
  min : mg "min" = none
  max : mg "max" = none
  abs : mg "abs" = none
  sum : mg "sum" = none
  enum : mg "enumerate" = none
section
variable {P : Program} {w : World} {K : PySem.W.Frag} {mg : Str → Option Value} {base : Heap} {f : Addr} {fd : FuncData}
structure Cal (P : Program) (w : World) (K : PySem.W.Frag) (mg : Str → Option Value) (base : Heap) (k : Nat) (x : Str) (ps : List Str) (sp : Sp) : Prop where
  ex : ∃ f fd, FnOk P w K mg base CX0 k f fd ps sp ∧ mg x = some (.ref f) ∧ PySem.W.keepIn K (.ref f) = true ∧ Binds K fd ps []
def spSide (K : PySem.W.Frag) : Sp := fun vs H Q _ => ∃ va vb vp a b p, vs = [va, vb, vp] ∧ PtAt K H va a ∧ PtAt K H vb b ∧ PtAt K H vp p ∧ (Bt a ∧ Bt b ∧ Bt p) ∧ Q (.int (Geo.sd a b p)) H
theorem scSide : FnScope ["a", "b", "p"] ["a", "b", "p"] (defScope st_side) := ⟨rfl, rfl, rfl, by decide +kernel, rfl, by decide +kernel, by decide +kernel⟩
def spSpans (K : PySem.W.Frag) : Sp := fun vs H Q _ => ∃ (va vb vc vd : L2.V) (i : Nat) (a b c d : Int), vs = [va, vb, vc, vd, .int i] ∧ CoAt K H va i a ∧ CoAt K H vb i b ∧ CoAt K H vc i c ∧ CoAt K H vd i d ∧
  Q (.bl (decide (min a b ≤ max c d) && decide (min c d ≤ max a b))) H
theorem scSpans : FnScope ["a", "b", "c", "d", "axis"] ["a", "b", "c", "d", "axis"] (defScope st_spans_meet) := ⟨rfl, rfl, rfl, by decide +kernel, rfl, by decide +kernel, by decide +kernel⟩
theorem min_if (a b : Int) : (if b < a then b else a) = min a b := by split <;> trivial
theorem max_if (a b : Int) : (if b > a then b else a) = max a b := by split <;> trivial
def spMeet (K : PySem.W.Frag) : Sp := fun vs H Q _ => ∃ va vb vc vd a b c d, vs = [va, vb, vc, vd] ∧ PtAt K H va a ∧ PtAt K H vb b ∧ PtAt K H vc c ∧ PtAt K H vd d ∧ (Bt a ∧ Bt b ∧ Bt c ∧ Bt d) ∧
  Q (.bl (decide (Geo.lm a b c d))) H
theorem scMeet : FnScope ["a", "b", "c", "d"] ["a", "b", "c", "d"] (defScope st_lines_meet) := ⟨rfl, rfl, rfl, by decide +kernel, rfl, by decide +kernel, by decide +kernel⟩
end
end Pr
end
section
local macro_rules | `(tactic| trivial) => `(tactic| first | lia -abstractProof | omega)
set_option Elab.async false
set_option linter.all false
set_option maxRecDepth 100000
set_option maxHeartbeats 2000000
namespace Pr
open PySem PySem.Spec PyProof.Rows L2
section
variable {P : Program} {w : World} {K : PySem.W.Frag} {mg : Str → Option Value} {base : Heap} {f : Addr} {fd : FuncData}
def spStuff : Sp := fun vs H Q _ => ∃ z, vs = [.int z] ∧ Q (.bl (Geo.stuffM z)) H
theorem scStuff : FnScope ["number"] ["number"] (defScope st_is_stuff) := ⟨rfl, rfl, rfl, by decide +kernel, rfl, by decide +kernel, by decide +kernel⟩
def spLen (K : PySem.W.Frag) : Sp := fun vs H Q _ => ∃ v ns, vs = [v] ∧ RoomAt K H v ns ∧ Q (.bl (Geo.lenM ns)) H
theorem scLen : FnScope ["room"] ["room"] (defScope st_is_length_right) := ⟨rfl, rfl, rfl, by decide +kernel, rfl, by decide +kernel, by decide +kernel⟩
def spHead (K : PySem.W.Frag) : Sp := fun vs H Q _ => ∃ v ns, vs = [v] ∧ RoomAt K H v ns ∧ 3 ≤ ns.length ∧ Q (.bl (Geo.headM ns)) H
theorem scHead : FnScope ["room"] ["room"] (defScope st_is_head_right) := ⟨rfl, rfl, rfl, by decide +kernel, rfl, by decide +kernel, by decide +kernel⟩
def spCorner : Sp := fun vs H Q _ => ∃ x y z : Int, vs = [.int x, .int y, .int z] ∧ Q (.bl ((decide (0 ≤ x) && decide (x ≤ 4095)) && ((decide (0 ≤ y) && decide (y ≤ 4095)) && Geo.stuffM z))) H
theorem scCorner : FnScope ["x", "y", "stuff"] ["x", "y", "stuff"] (defScope st_is_corner_right) := ⟨rfl, rfl, rfl, by decide +kernel, rfl, by decide +kernel, by decide +kernel⟩
def spDir (K : PySem.W.Frag) : Sp := fun vs H Q _ => ∃ v a b, vs = [v] ∧ LineAt K H v a b ∧ Q (.bl (Geo.dirM a b)) H
theorem scDir : FnScope ["line", "dx", "dy"] ["line"] (defScope st_is_direction_right) := ⟨rfl, rfl, rfl, by decide +kernel, rfl, by decide +kernel, by decide +kernel⟩
theorem abs_if (i : Int) : (if i < 0 then -i else i) = (i.natAbs : Int) := by split <;> trivial
end
end Pr
end
section
local macro_rules | `(tactic| trivial) => `(tactic| first | lia -abstractProof | omega)
set_option Elab.async false
set_option linter.all false
set_option maxRecDepth 100000
set_option maxHeartbeats 2000000
namespace Pr
open PySem PySem.Spec PyProof.Rows L2
theorem lc_rangeC {lo c : Int} {n : Nat} {g : TG} {tt : TT} {te : TE} {vs : List Nat} {σ : L2.St} {H1 : Hp} {D : Addr} {Qd : Hp → Prop} (Pv : Nat → Hp → Prop) (h0 : Pv 0 (upd H1 D (.lst [])))
    (hs : ∀ i H, i < n → Pv i H → g (.int (lo + (i : Nat) * c)) (wipe σ vs) H fun σ2 H2 => wipe σ2 vs = wipe σ vs ∧ tt σ2 H2 fun b H3 =>
      if b = true then te σ2 H3 fun y H4 => ∃ acc, H4 D = some (.lst acc) ∧ acc.length < sizeLine ∧ Pv (i + 1) (upd H4 D (.lst (acc ++ [y]))) else Pv (i + 1) H3) (hd : ∀ H, Pv n H → Qd H) :
    ∃ W : Nat → Nat → Hp → Prop, (∃ m, W 0 m (upd H1 D (.lst []))) ∧ ∀ i m H, W i m H →
      ((Itc lo c n).stop i H ∧ Qd H) ∨ ((Itc lo c n).go i H ∧ ∃ Nx : Hp → Prop, (∀ H', Nx H' → ∃ m', m' < m ∧ W (i + 1) m' H') ∧ ∀ x H', (Itc lo c n).yld i H x H' → g x (wipe σ vs) H' fun σ2 H2 => wipe σ2 vs = wipe σ vs ∧ tt σ2 H2 fun b H3 =>
        if b = true then te σ2 H3 fun y H4 => ∃ acc, H4 D = some (.lst acc) ∧ acc.length < sizeLine ∧ Nx (upd H4 D (.lst (acc ++ [y]))) else Nx H3) := by
  refine ⟨fun i m H => m = n - i ∧ i ≤ n ∧ Pv i H, ⟨n, by simp, Nat.zero_le _, h0⟩, ?_⟩
  rintro i m H ⟨rfl, hi, p⟩
  by_cases hlt : i < n
  · refine .inr ⟨hlt, Pv (i + 1), fun H' p' => ⟨n - (i + 1), by trivial, rfl, hlt, p'⟩, fun x H' y => ?_⟩
    obtain ⟨e, y⟩ := y
    subst e y
    exact hs i _ hlt p
  · have e : i = n := by trivial
    subst e
    exact .inl ⟨Nat.le_refl _, hd H p⟩
theorem for_enum {K : PySem.W.Frag} {a : Addr} {xs : List L2.V} {g : TG} {tb : TS} {D : Ends} {σ : L2.St} {H : Hp} (Pv : Nat → L2.St → Hp → Prop) (h0 : Pv 0 σ H) (hl : ∀ i σ H, i ≤ xs.length → Pv i σ H → SqL K H a xs)
    (hs : ∀ i x σ H T, xs[i]? = some x → Pv i σ H → H T = none → g (.ref T) σ (upd H T (.tup [.int (i : Nat), x])) fun σ2 H2 => tb { D with nx := Pv (i + 1), ct := Pv (i + 1), bk := D.nx } σ2 H2) (hd : ∀ σ H, Pv xs.length σ H → D.nx σ H) :
    ∃ W : Nat → Nat → L2.St → Hp → Prop, (∃ m, W 0 m σ H) ∧ ∀ i m σ H, W i m σ H →
      ((Ite K a).stop i H ∧ D.nx σ H) ∨ ((Ite K a).go i H ∧ ∃ N : L2.St → Hp → Prop, (∀ σ' H', N σ' H' → ∃ m', m' < m ∧ W (i + 1) m' σ' H') ∧ ∀ x H', (Ite K a).yld i H x H' → g x σ H' fun σ2 H2 => tb { D with nx := N, ct := N, bk := D.nx } σ2 H2) := by
  refine ⟨fun i m σ H => m = xs.length - i ∧ i ≤ xs.length ∧ Pv i σ H, ⟨xs.length, by simp, Nat.zero_le _, h0⟩, ?_⟩
  rintro i m σ H ⟨rfl, hi, p⟩
  have q := hl i σ H hi p
  by_cases hlt : i < xs.length
  · refine .inr ⟨⟨xs, xs[i], q, by simp [hlt]⟩, Pv (i + 1), fun σ' H' p' => ⟨xs.length - (i + 1), by trivial, rfl, hlt, p'⟩, fun x H' y => ?_⟩
    obtain ⟨T, z, rfl, hT, rfl, y⟩ := y
    exact hs i z σ H T (y xs q) p hT
  · have e : i = xs.length := by trivial
    subst e
    exact .inl ⟨⟨xs, q, Nat.le_refl _⟩, hd σ H p⟩
theorem rg3 {n : Nat} (h : n ≤ 1000) : RgC 3 ((3 + 3 * n : Nat) : Int) 3 n := by
  have e : Builtin.Range.rangeSize 3 ((3 + 3 * n : Nat) : Int) 3 = n := by
    unfold Builtin.Range.rangeSize
    simp only [show (3 : Int) > 0 by decide, if_true]
    split <;> trivial
  refine ⟨by decide, by decide, ?_, e⟩
  unfold Builtin.Range.small
  rw [e]
  have fit : ∀ z : Int, 0 ≤ z → z ≤ 100000 → Builtin.Range.rangeFitsLong z = true := by
    intro z h1 h2
    unfold Builtin.Range.rangeFitsLong
    rw [Bool.and_eq_true, decide_eq_true_eq, decide_eq_true_eq]
    trivial
  rw [fit 3 (by decide) (by decide), fit _ (by trivial) (by trivial), fit n (by trivial) (by trivial), if_pos (by decide), fit _ (by trivial) (by trivial)]
  simp
theorem Same.set {H H' : Hp} {D : Addr} {o : HO} (hD : H D = none) (s : Same H H') : Same H (L2.upd H' D o) := fun b o' e => by
  rw [upd_ne (fun q => by rw [q, hD] at e; cases e)]
  exact s b o' e
theorem SqT.set {K : PySem.W.Frag} {H : Hp} {D a : Addr} {acc acc' xs : List L2.V} (hD : H D = some (.lst acc)) (h : SqT K H a xs) : SqT K (L2.upd H D (.lst acc')) a xs := by
  rcases h with (h | ⟨o, h⟩) | h
  · refine .inl (.inl ?_)
    rw [upd_ne (fun q => by rw [q, hD] at h; cases h)]
    exact h
  · refine .inl (.inr ⟨o, ?_⟩)
    rw [upd_ne (fun q => by rw [q, hD] at h; cases h)]
    exact h
  · exact .inr h
theorem PtAt.set {K : PySem.W.Frag} {H : Hp} {D : Addr} {acc acc' : List L2.V} {v : L2.V} {p : Geo.V} (hD : H D = some (.lst acc)) (h : PtAt K H v p) : PtAt K (L2.upd H D (.lst acc')) v p := by
  obtain ⟨a, xs, e, q, h0, h1⟩ := h; exact ⟨a, xs, e, SqT.set hD q, h0, h1⟩
theorem CoAt.set {K : PySem.W.Frag} {H : Hp} {D : Addr} {acc acc' : List L2.V} {v : L2.V} {i : Nat} {c : Int} (hD : H D = some (.lst acc)) (h : CoAt K H v i c) : CoAt K (L2.upd H D (.lst acc')) v i c := by
  obtain ⟨a, xs, e, q, h0⟩ := h; exact ⟨a, xs, e, SqT.set hD q, h0⟩
theorem LineAt.set {K : PySem.W.Frag} {H : Hp} {D : Addr} {acc acc' : List L2.V} {v : L2.V} {a b : Geo.V} (hD : H D = some (.lst acc)) (h : LineAt K H v a b) : LineAt K (L2.upd H D (.lst acc')) v a b := by
  obtain ⟨l, va, vb, e, q, h0, h1⟩ := h; exact ⟨l, va, vb, e, SqT.set hD q, h0.set hD, h1.set hD⟩
theorem snoc_get {α : Type} {xs : List α} {y x : α} {j : Nat} (h : (xs ++ [y])[j]? = some x) : (j < xs.length ∧ xs[j]? = some x) ∨ (j = xs.length ∧ x = y) := by
  by_cases hj : j < xs.length
  · rw [List.getElem?_append_left hj] at h; exact .inl ⟨hj, h⟩
  · rw [List.getElem?_append_right (by trivial)] at h
    right
    cases hk : j - xs.length with
    | zero => rw [hk] at h; exact ⟨by trivial, (Option.some.inj h).symm⟩
    | succ m => rw [hk] at h; simp at h
theorem ixl {X : Cx} {K : PySem.W.Frag} (h : X.K = K) : IxR X (rIxL K) := by subst h; exact ix_list
theorem ixt {X : Cx} {K : PySem.W.Frag} (h : X.K = K) : IxR X (rIxT K) := by subst h; exact ix_tup
theorem pgt {X : Cx} {K : PySem.W.Frag} (hK : X.K = K) {es : List Expr} {k : Nat} {t : TGs} {n : Nat} {pos : Pos} (hc : X.calm = true) (h : PGs X es t)
    (hn : (assignEach es X.env).length = n := by rfl) (hst : (assignEach es X.env).findIdx? (·.1) = none := by rfl) : PG X (.Tuple es k pos) (gTup K n t) := by subst hK; exact pg_tup hc h hn hst
section
variable {P : Program} {w : World} {K : PySem.W.Frag} {mg : Str → Option Value} {base : Heap} {f : Addr} {fd : FuncData}
def cnr (ns : List Int) (i : Nat) : Geo.V := (ns.getD (3 + 3 * i) 0, ns.getD (3 + 3 * i + 1) 0)
def CornersAt (K : PySem.W.Frag) (H : Hp) (v : L2.V) (n : Nat) (c : Nat → Geo.V) : Prop := ∃ l vs, v = L2.V.ref l ∧ SqL K H l vs ∧ vs.length = n ∧ ∀ i x, vs[i]? = some x → PtAt K H x (c i)
theorem CornersAt.mono {H H' : Hp} {v : L2.V} {n : Nat} {u : Nat → Geo.V} (s : Same H H') (h : CornersAt K H v n u) : CornersAt K H' v n u := by
  obtain ⟨l, vs, e, q, hl, h⟩ := h; exact ⟨l, vs, e, s.seq q, hl, fun i x hx => (h i x hx).mono s⟩
def spCorners (K : PySem.W.Frag) : Sp := fun vs H Q _ => ∃ v ns n, vs = [v] ∧ RoomAt K H v ns ∧ ns.length = 3 + 3 * n ∧ n ≤ 64 ∧ ∀ H' x, Same H H' → CornersAt K H' x n (cnr ns) → Q x H'
theorem scCorners : FnScope ["room", "k"] ["room"] (defScope st_corners_of) := ⟨rfl, rfl, rfl, by decide +kernel, rfl, by decide +kernel, by decide +kernel⟩
theorem blkCorners : blkC ["room", "k"] (defScope st_corners_of) { kind := .function, names := [(Str.ofString ".0", .local), (Str.ofString "k", .local), (Str.ofString "room", .free)], isGenerator := false, isCoroutine := false } [("k", 1)] = true := by decide +kernel
def spLines (K : PySem.W.Frag) : Sp := fun vs H Q _ => ∃ v ns n, vs = [v] ∧ RoomAt K H v ns ∧ ns.length = 3 + 3 * n ∧ 1 ≤ n ∧ n ≤ 64 ∧ ∀ H' x, Same H H' → LinesAt K H' x n (Geo.cu ns) → Q x H'
theorem scLines : FnScope ["room", "corners", "i"] ["room"] (defScope st_lines_of) := ⟨rfl, rfl, rfl, by decide +kernel, rfl, by decide +kernel, by decide +kernel⟩
theorem blkLines : blkC ["room", "corners", "i"] (defScope st_lines_of) { kind := .function, names := [(Str.ofString ".0", .local), (Str.ofString "i", .local), (Str.ofString "corners", .free)], isGenerator := false, isCoroutine := false } [("i", 2)] = true := by decide +kernel
end
end Pr
end
section
local macro_rules | `(tactic| trivial) => `(tactic| first | lia -abstractProof | omega)
set_option Elab.async false
set_option linter.all false
set_option maxRecDepth 100000
set_option maxHeartbeats 2000000
namespace Pr
open PySem PySem.Spec PyProof.Rows L2
def oV (o : Option Nat) : L2.V := match o with
  | some i => .int (i : Nat)
  | none => .non
theorem find_at {p : Nat → Bool} {n i : Nat} (h : i < n) (hp : p i = true) (hb : ∀ j, j < i → p j = false) : (List.range n).find? p = some i :=
  List.find?_range_eq_some.2 ⟨hp, List.mem_range.2 h, fun j hj => by rw [hb j hj]; rfl⟩
theorem find_no {p : Nat → Bool} {n : Nat} (hb : ∀ j, j < n → p j = false) : (List.range n).find? p = none :=
  List.find?_range_eq_none.2 fun j hj => by rw [hb j hj]; rfl
theorem upto {p : Nat → Prop} {i : Nat} (h : ∀ j, j < i → p j) (hi : p i) : ∀ j, j < i + 1 → p j := fun j hj => by
  by_cases e : j = i
  · subst e; exact hi
  · exact h j (by trivial)
section
variable {P : Program} {w : World} {K : PySem.W.Frag} {mg : Str → Option Value} {base : Heap} {f : Addr} {fd : FuncData}
def spWC (K : PySem.W.Frag) : Sp := fun vs H Q _ => ∃ v ns n, vs = [v] ∧ RoomAt K H v ns ∧ ns.length = 3 + 3 * n ∧ n ≤ 64 ∧ Q (oV ((List.range n).find? fun i => !Geo.cornerM ns i)) H
theorem scWC : FnScope ["room", "k"] ["room"] (defScope st_wrong_corner) := ⟨rfl, rfl, rfl, by decide +kernel, rfl, by decide +kernel, by decide +kernel⟩
def spWD (K : PySem.W.Frag) : Sp := fun vs H Q _ => ∃ v n u, vs = [v] ∧ LinesAt K H v n u ∧ ∀ H', Same H H' → Q (oV (Geo.fault4 n u)) H'
theorem scWD : FnScope ["lines", "i", "line"] ["lines"] (defScope st_wrong_direction) := ⟨rfl, rfl, rfl, by decide +kernel, rfl, by decide +kernel, by decide +kernel⟩
structure Small (n : Nat) (u : Nat → Geo.V) : Prop where
  bt : ∀ i, Bt (u i)
  per : ∀ i, u (i + n) = u i
  n1 : 1 ≤ n
  n64 : n ≤ 64
theorem Small.mod {n : Nat} {u : Nat → Geo.V} (h : Small n u) : ∀ i, u (i % n) = u i := by
  have key : ∀ k i, u (i + n * k) = u i := by
    intro k
    induction k with
    | zero => intro i; rfl
    | succ k ih => intro i; rw [Nat.mul_succ, ← Nat.add_assoc, h.per, ih]
  intro i
  have := key (i / n) (i % n)
  rw [Nat.mod_add_div] at this
  exact this.symm
theorem Small.modAdd {n : Nat} {u : Nat → Geo.V} (h : Small n u) (i j : Nat) : u (i % n + j) = u (i + j) := by
  rw [← h.mod, Nat.mod_add_mod, h.mod]
theorem LinesAt.get {H : Hp} {l : Addr} {xs : List L2.V} {n : Nat} {u : Nat → Geo.V} (S : Small n u) (hl : xs.length = n) (hx : ∀ i x, xs[i]? = some x → LineAt K H x (u i) (u (i + 1))) (j : Nat) :
    ∃ x, atI xs ((j : Int) % (xs.length : Int)) = some x ∧ LineAt K H x (u j) (u (j + 1)) := by
  have hj : j % n < xs.length := by rw [hl]; exact Nat.mod_lt _ S.n1
  refine ⟨xs[j % n], at_of (j := j % n) (by rw [hl]; trivial) (List.getElem?_eq_getElem hj), ?_⟩
  have := hx (j % n) _ (List.getElem?_eq_getElem hj)
  rw [S.mod, S.modAdd] at this
  exact this
def spSC (K : PySem.W.Frag) : Sp := fun vs H Q _ => ∃ v n u, vs = [v] ∧ LinesAt K H v n u ∧ Small n u ∧ ∀ H', Same H H' → Q (oV (Geo.fault5 n u)) H'
theorem scSC : FnScope ["lines", "i", "line", "following"] ["lines"] (defScope st_straight_corner) := ⟨rfl, rfl, rfl, by decide +kernel, rfl, by decide +kernel, by decide +kernel⟩
def spMF (K : PySem.W.Frag) : Sp := fun vs H Q _ => ∃ v n u i, vs = [v, .int (i : Nat)] ∧ LinesAt K H v n u ∧ Small n u ∧ i < n ∧ Q (.bl (Geo.far6 n u i)) H
theorem scMF : FnScope ["lines", "i", "a", "b", "step", "far"] ["lines", "i"] (defScope st_meets_far_line) := ⟨rfl, rfl, rfl, by decide +kernel, rfl, by decide +kernel, by decide +kernel⟩
def spCL (K : PySem.W.Frag) : Sp := fun vs H Q _ => ∃ v n u, vs = [v] ∧ LinesAt K H v n u ∧ Small n u ∧ Q (oV (Geo.fault6 n u)) H
theorem scCL : FnScope ["lines", "i"] ["lines"] (defScope st_crossed_line) := ⟨rfl, rfl, rfl, by decide +kernel, rfl, by decide +kernel, by decide +kernel⟩
end
end Pr
end
section
local macro_rules | `(tactic| trivial) => `(tactic| first | lia -abstractProof | omega)
set_option Elab.async false
set_option linter.all false
set_option maxRecDepth 100000
set_option maxHeartbeats 2000000
namespace Pr
open PySem PySem.Spec PyProof.Rows L2
section
variable {P : Program} {w : World} {K : PySem.W.Frag} {mg : Str → Option Value} {base : Heap} {f : Addr} {fd : FuncData}
def spRL (K : PySem.W.Frag) : Sp := fun vs H Q _ => ∃ v n u, vs = [v] ∧ LinesAt K H v n u ∧ Small n u ∧ ∀ H', Same H H' → Q (.bl (decide (0 < Geo.areaM n u))) H'
theorem scRL : FnScope ["lines", "a", "b"] ["lines"] (defScope st_is_room_left) := ⟨rfl, rfl, rfl, by decide +kernel, rfl, by decide +kernel, by decide +kernel⟩
theorem blkRL : blkC ["lines", "a", "b"] (defScope st_is_room_left) { kind := .function, names := [(Str.ofString ".0", .local), (Str.ofString "a", .local), (Str.ofString "b", .local)], isGenerator := false, isCoroutine := false } [("a", 1), ("b", 2)] = true := by decide +kernel
def arT (u : Nat → Geo.V) (i : Nat) : Int := (u i).1 * (u (i + 1)).2 - (u (i + 1)).1 * (u i).2
def FaultV (K : PySem.W.Frag) (H : Hp) (x : L2.V) : Option (Nat × Nat) → Prop
  | none => x = .non
  | some p => ∃ t, x = L2.V.ref t ∧ SqT K H t [.int (p.1 : Nat), .int (p.2 : Nat)]
theorem oV_some (i : Nat) : (!decide (oV (some i) = L2.V.non)) = true := by
  rw [decide_eq_false (fun h => by cases h)]; rfl
theorem oV_none : (!decide (oV none = L2.V.non)) = false := by
  rw [decide_eq_true (show oV none = L2.V.non from rfl)]; rfl
def spLF (K : PySem.W.Frag) : Sp := fun vs H Q _ => ∃ v n u, vs = [v] ∧ LinesAt K H v n u ∧ Small n u ∧ ∀ H' x, Same H H' → FaultV K H' x (Geo.linesFault n u) → Q x H'
theorem scLF : FnScope ["lines", "wall"] ["lines"] (defScope st_lines_fault) := ⟨rfl, rfl, rfl, by decide +kernel, rfl, by decide +kernel, by decide +kernel⟩
theorem bt_of {z : Int} (h1 : 0 ≤ z) (h2 : z ≤ 4095) : ib z ≤ 100000 := Nat.le_trans (intBits_le_iff.2 (Nat.lt_of_le_of_lt (show z.natAbs ≤ 4095 by trivial) (show 4095 < 2 ^ 12 by decide))) (by decide)
theorem small_of {ns : List Int} {n : Nat} (hc : Geo.cn ns = n) (h1 : 1 ≤ n) (h64 : n ≤ 64) (h : ∀ i, i < n → Geo.cornerM ns i = true) : Small n (Geo.cu ns) := by
  refine ⟨fun i => ?_, fun i => ?_, h1, h64⟩
  · have := h (i % n) (Nat.mod_lt _ h1)
    unfold Geo.cornerM at this
    simp only [Bool.and_eq_true, decide_eq_true_eq] at this
    unfold Geo.cu
    rw [hc]
    exact ⟨bt_of this.1.1 this.1.2, bt_of this.2.1.1 this.2.1.2⟩
  · unfold Geo.cu
    rw [hc, Nat.add_mod_right]
theorem len_of {ns : List Int} (h : Geo.lenM ns = true) : ns.length = 3 + 3 * Geo.cn ns ∧ 3 ≤ Geo.cn ns ∧ Geo.cn ns ≤ 64 := by
  unfold Geo.lenM at h
  simp only [Bool.and_eq_true, decide_eq_true_eq] at h
  unfold Geo.cn at *
  trivial
def spRF (K : PySem.W.Frag) : Sp := fun vs H Q _ => ∃ v ns, vs = [v] ∧ RoomAt K H v ns ∧ ∀ H' x, Same H H' → FaultV K H' x (Geo.roomFault ns) → Q x H'
theorem scRF : FnScope ["room", "wall"] ["room"] (defScope st_room_fault) := ⟨rfl, rfl, rfl, by decide +kernel, rfl, by decide +kernel, by decide +kernel⟩
end
end Pr
end
section
local macro_rules | `(tactic| trivial) => `(tactic| first | lia -abstractProof | omega)
set_option Elab.async false
set_option linter.all false
set_option maxRecDepth 100000
set_option maxHeartbeats 2000000
namespace Pr
open PySem PySem.Spec PyProof.Rows L2
section
variable {P : Program} {w : World} {K : PySem.W.Frag} {mg : Str → Option Value} {base : Heap} {f : Addr} {fd : FuncData}
theorem rd_wind {σ : L2.St} {H : Hp} {Q : Bool → Hp → Prop} {cmp : Int → Int → Bool} {ic ip id ja jb : Nat} {vc vp vd va vb : L2.V} {c p d a b : Geo.V}
    (h1 : σ[ic]? = some (some vc)) (h2 : σ[ip]? = some (some vp)) (h3 : σ[id]? = some (some vd)) (h4 : σ[ja]? = some (some va)) (h5 : σ[jb]? = some (some vb))
    (pc : PtAt K H vc c) (pp : PtAt K H vp p) (pd : PtAt K H vd d) (pa : PtAt K H va a) (pb : PtAt K H vb b) (ba : Bt a) (bb : Bt b) (bp : Bt p)
    (q : Q ((decide (c.2 ≤ p.2) && decide (p.2 < d.2)) && cmp (Geo.sd a b p) 0) H) :
    tAnd (tTest (tChain (rI0 fun i j => .bl (decide (i ≤ j))) (rI0 fun i j => .bl (decide (i < j))) (tOp (rIxT K) (tVar ic) (tC (.int 1))) (tOp (rIxT K) (tVar ip) (tC (.int 1))) (tOp (rIxT K) (tVar id) (tC (.int 1)))))
      (tTest (tOp (rI0 fun i j => .bl (cmp i j)) (tCall (spSide K) [] E0 (tCons (tVar ja) (tCons (tVar jb) (tCons (tVar ip) tNil)))) (tC (.int 0)))) σ H Q := by
  obtain ⟨xc, yc, rfl, sc, c0, c1⟩ := pc
  have pp' := pp
  obtain ⟨xp, yp, rfl, sp, p0, p1⟩ := pp'
  obtain ⟨xd, yd, rfl, sd, d0, d1⟩ := pd
  refine ⟨_, h1, _, _, _, _, rfl, rfl, sc, at1 c1, _, h2, _, _, _, _, rfl, rfl, sp, at1 p1, _, _, rfl, rfl, _, rfl, iteB (fun e1 => ?_) (fun e1 => ?_)⟩
  · refine ⟨_, h3, _, _, _, _, rfl, rfl, sd, at1 d1, _, _, rfl, rfl, _, rfl, iteB (fun e2 => ?_) (fun e2 => ?_)⟩
    · rw [e1, e2, Bool.true_and, Bool.true_and] at q
      exact ⟨_, h4, _, h5, _, h2, _, _, _, a, b, p, rfl, pa, pb, pp, ⟨ba, bb, bp⟩, _, _, rfl, rfl, _, rfl, q⟩
    · rw [e1, e2, Bool.true_and, Bool.false_and] at q
      exact q
  · rw [e1, Bool.false_and, Bool.false_and] at q
    exact ⟨_, rfl, iteF q⟩
def spWi (K : PySem.W.Frag) : Sp := fun vs H Q _ => ∃ vp vl p n u, vs = [vp, vl] ∧ PtAt K H vp p ∧ Bt p ∧ LinesAt K H vl n u ∧ Small n u ∧ Q (.bl (Geo.withinM n u p)) H
theorem scWi : FnScope ["p", "lines", "rounds", "a", "b"] ["p", "lines"] (defScope st_is_within) := ⟨rfl, rfl, rfl, by decide +kernel, rfl, by decide +kernel, by decide +kernel⟩
theorem sg_bool (a b p : Geo.V) : Geo.sg a b p = (if ((decide (a.2 ≤ p.2) && decide (p.2 < b.2)) && decide (0 < Geo.sd a b p)) = true then 1 else 0) - (if ((decide (b.2 ≤ p.2) && decide (p.2 < a.2)) && decide (Geo.sd a b p < 0)) = true then 1 else 0) := by
  unfold Geo.sg
  simp only [Bool.and_eq_true, decide_eq_true_eq, and_assoc]
def spIn (K : PySem.W.Frag) : Sp := fun vs H Q _ => ∃ vp vl p z h n u, vs = [vp, .int h, vl] ∧ PtAt K H vp p ∧ CoAt K H vp 2 z ∧ Bt p ∧ LinesAt K H vl n u ∧ Small n u ∧ Q (.bl (Geo.insideM n u h p z)) H
theorem scIn : FnScope ["p", "height", "lines"] ["p", "height", "lines"] (defScope st_is_inside) := ⟨rfl, rfl, rfl, by decide +kernel, rfl, by decide +kernel, by decide +kernel⟩
def PlacesAt (K : PySem.W.Frag) (H : Hp) (l : Addr) (n : Nat) (c : Nat → Geo.V) (z : Nat → Int) : Prop := ∃ vs, H l = some (.lst vs) ∧ vs.length = n ∧ ∀ i x, vs[i]? = some x → PtAt K H x (c i) ∧ CoAt K H x 2 (z i)
theorem bits16 {z : Int} (h1 : 0 ≤ z) (h2 : z ≤ 256) : ib z ≤ 10 := intBits_le_iff.2 (Nat.lt_of_le_of_lt (show z.natAbs ≤ 256 by trivial) (by decide))
theorem grid_of {nx ny : Int} (h : Geo.gridM nx ny = true) : 1 ≤ nx ∧ nx ≤ 16 ∧ 1 ≤ ny ∧ ny ≤ 16 := by
  unfold Geo.gridM at h
  simp only [Bool.and_eq_true, decide_eq_true_eq] at h
  trivial
theorem mul16 {nx ny : Int} (h : 1 ≤ nx ∧ nx ≤ 16 ∧ 1 ≤ ny ∧ ny ≤ 16) : 1 ≤ nx * ny ∧ nx * ny ≤ 256 := by
  have h1 := Int.mul_le_mul h.2.1 h.2.2.2 (by trivial) (by decide)
  have h2 := Int.mul_pos (show 0 < nx by trivial) (show 0 < ny by trivial)
  trivial
end
end Pr
end
section
local macro_rules | `(tactic| trivial) => `(tactic| first | lia -abstractProof | omega)
set_option Elab.async false
set_option linter.all false
set_option maxRecDepth 100000
set_option maxHeartbeats 2000000
namespace Pr
open PySem PySem.Spec PyProof.Rows L2
structure TxtP (mg : Str → Option Value) : Prop where
  places : ∃ t, mg "MOST_PLACES_A_SIDE" = some (.int 16 t)
section
variable {P : Program} {w : World} {K : PySem.W.Frag} {mg : Str → Option Value} {base : Heap} {f : Addr} {fd : FuncData}
def spGrid : Sp := fun vs H Q _ => ∃ x y : Int, vs = [.int x, .int y] ∧ Q (.bl (Geo.gridM x y)) H
theorem scGrid : FnScope ["nx", "ny"] ["nx", "ny"] (defScope st_is_grid_right) := ⟨rfl, rfl, rfl, by decide +kernel, rfl, by decide +kernel, by decide +kernel⟩
def spGP (K : PySem.W.Frag) : Sp := fun vs H Q _ => ∃ x y z dx dy nx ny : Int, vs = [.int x, .int y, .int z, .int dx, .int dy, .int nx, .int ny] ∧ Geo.gridM nx ny = true ∧ (ib dx ≤ 150 ∧ ib dy ≤ 150) ∧
  ∀ H' l, Same H H' → H l = none → PlacesAt K H' l (nx * ny).toNat (Geo.placeM x y dx dy nx) (fun _ => z) → Q (.ref l) H'
theorem scGP : FnScope ["x", "y", "z", "dx", "dy", "nx", "ny", "k"] ["x", "y", "z", "dx", "dy", "nx", "ny"] (defScope st_grid_places) := ⟨rfl, rfl, rfl, by decide +kernel, rfl, by decide +kernel, by decide +kernel⟩
theorem blkGP : blkC ["x", "y", "z", "dx", "dy", "nx", "ny", "k"] (defScope st_grid_places) { kind := .function, names := [(Str.ofString ".0", .local), (Str.ofString "k", .local), (Str.ofString "dx", .free), (Str.ofString "dy", .free), (Str.ofString "nx", .free), (Str.ofString "x", .free), (Str.ofString "y", .free), (Str.ofString "z", .free)], isGenerator := false, isCoroutine := false } [("k", 7)] = true := by decide +kernel
end
end Pr
end
section
local macro_rules | `(tactic| trivial) => `(tactic| first | lia -abstractProof | omega)
set_option Elab.async false
set_option linter.all false
set_option maxRecDepth 100000
set_option maxHeartbeats 2000000
namespace Pr
open PySem PySem.Spec PyProof.Rows L2
def natV (l : List Nat) : List L2.V := l.map fun (j : Nat) => L2.V.int (j : Int)
theorem natV_get {l : List Nat} {i : Nat} {j : Nat} (h : l[i]? = some j) : (natV l)[i]? = some (.int (j : Int)) := by unfold natV; rw [List.getElem?_map, h]; rfl
theorem natV_len (l : List Nat) : (natV l).length = l.length := by unfold natV; rw [List.length_map]
theorem natV_snoc (l : List Nat) (j : Nat) : natV (l ++ [j]) = natV l ++ [.int (j : Int)] := by unfold natV; rw [List.map_append]; rfl
end Pr
end
section
local macro_rules | `(tactic| trivial) => `(tactic| first | lia -abstractProof | omega)
set_option Elab.async false
set_option linter.all false
set_option maxRecDepth 100000
set_option maxHeartbeats 2000000
namespace Pr
open PySem PySem.Spec PyProof.Rows L2
section
variable {P : Program} {w : World} {K : PySem.W.Frag} {mg : Str → Option Value} {base : Heap} {f : Addr} {fd : FuncData}
structure TxtB (mg : Str → Option Value) : Prop where
  numbers : ∃ t, mg "BOOK_NUMBERS" = some (.int 36 t)
  whole : ∃ t, mg "WHOLE_PART" = some (.int 32768 t)
def bookM (bs : List Int) : Option Nat := if bs.length = 36 then (List.range bs.length).find? (fun i => decide (32768 < bs.getD i 0)) else some bs.length
def spBf (K : PySem.W.Frag) : Sp := fun vs H Q _ => ∃ v bs, vs = [v] ∧ RoomAt K H v bs ∧ ∀ H', Same H H' → Q (oV (bookM bs)) H'
theorem scBf : FnScope ["book", "place", "part"] ["book"] (defScope st_book_fault) := ⟨rfl, rfl, rfl, by decide +kernel, rfl, by decide +kernel, by decide +kernel⟩
def refM (p : Geo.V) (z : Int) (right : Bool) (ns : List Int) (bk : Option (List Int)) : Option (List Int) :=
  match Geo.roomFault ns with
  | some g => some [-5, (g.1 : Int), (g.2 : Int)]
  | none => match bk.bind bookM with
    | some i => some [-6, (i : Int)]
    | none => if right = false then some [-1] else if Geo.insideM (Geo.cn ns) (Geo.cu ns) (ns.getD 0 0) p z = false then some [-3] else none
def RefR (H : Hp) (x : L2.V) : Option (List Int) → Prop
  | none => x = .non
  | some r => ∃ a, x = L2.V.ref a ∧ H a = some (.lst (r.map L2.V.int))
def BkAt (K : PySem.W.Frag) (H : Hp) (v : L2.V) : Option (List Int) → Prop
  | none => v = .non
  | some bs => RoomAt K H v bs
theorem small_room {ns : List Int} (ef : Geo.roomFault ns = none) : Small (Geo.cn ns) (Geo.cu ns) ∧ ns.length = 3 + 3 * Geo.cn ns ∧ 3 ≤ Geo.cn ns ∧ Geo.cn ns ≤ 64 ∧ (∀ i, i < Geo.cn ns → Geo.cornerM ns i = true) ∧ Geo.headM ns = true := by
  have hlen : Geo.lenM ns = true := by
    unfold Geo.roomFault at ef
    by_cases c : Geo.lenM ns = false
    · rw [if_pos c] at ef; cases ef
    · simpa using c
  obtain ⟨h1, h3, h64⟩ := len_of hlen
  unfold Geo.roomFault at ef
  rw [if_neg (by rw [hlen]; simp)] at ef
  by_cases c : Geo.headM ns = false
  · rw [if_pos c] at ef; cases ef
  · rw [if_neg c] at ef
    cases e3 : (List.range (Geo.cn ns)).find? fun i => !Geo.cornerM ns i with
    | some i => rw [e3] at ef; cases ef
    | none =>
      have hc : ∀ i, i < Geo.cn ns → Geo.cornerM ns i = true := fun i hi => by have := Geo.find_none e3 i hi; simpa using this
      exact ⟨small_of rfl (by trivial) h64 hc, h1, h3, h64, hc, by simpa using c⟩
def SAt (K : PySem.W.Frag) (H : Hp) (v : L2.V) : Option (Geo.V × Int) → Prop
  | none => v = .non
  | some q => PtAt K H v q.1 ∧ CoAt K H v 2 q.2 ∧ Bt q.1
theorem SAt.mono {K : PySem.W.Frag} {H H' : Hp} {v : L2.V} {o : Option (Geo.V × Int)} (e : Same H H') (h : SAt K H v o) : SAt K H' v o := by
  cases o with
  | none => exact h
  | some q => exact ⟨h.1.mono e, h.2.1.mono e, h.2.2⟩
def insO (ns : List Int) (o : Option (Geo.V × Int)) : Bool := match o with
  | none => true
  | some q => Geo.insideM (Geo.cn ns) (Geo.cu ns) (ns.getD 0 0) q.1 q.2
def refO (o : Option (Geo.V × Int)) (right : Bool) (ns : List Int) (bk : Option (List Int)) : Option (List Int) :=
  match Geo.roomFault ns with
  | some g => some [-5, (g.1 : Int), (g.2 : Int)]
  | none => match bk.bind bookM with
    | some i => some [-6, (i : Int)]
    | none => if right = false then some [-1] else if insO ns o = false then some [-3] else none
theorem refO_some (p : Geo.V) (z : Int) (right : Bool) (ns : List Int) (bk : Option (List Int)) : refO (some (p, z)) right ns bk = refM p z right ns bk := rfl
def spRe (K : PySem.W.Frag) : Sp := fun vs H Q _ => ∃ v1 v3 v4 o right ns bk, vs = [v1, .bl right, v3, v4] ∧ SAt K H v1 o ∧ RoomAt K H v3 ns ∧ BkAt K H v4 bk ∧ ∀ H' x, Same H H' → RefR H' x (refO o right ns bk) → Q x H'
theorem scRe : FnScope ["s", "is_right", "room", "book", "fault", "wrong"] ["s", "is_right", "room", "book"] (defScope st_refusal) := ⟨rfl, rfl, rfl, by decide +kernel, rfl, by decide +kernel, by decide +kernel⟩
end
end Pr
end
section
local macro_rules | `(tactic| trivial) => `(tactic| first | lia -abstractProof | omega)
set_option Elab.async false
set_option linter.all false
set_option maxRecDepth 100000
set_option maxHeartbeats 2000000
namespace Pr
open PySem PySem.Spec PyProof.Rows L2
def CPowB (i j : Int) : Prop := 0 ≤ j ∧ (ib i : Int) * j ≤ 2 ^ 27
theorem op_powB {X : Cx} : OpR X (binaryOp .Pow) (rI CPowB fun i j => .int (i ^ j.toNat)) := opI fun _ _ _ _ _ _ _ hc q => pow_int hc.1 hc.2 q
def rCatA (K : PySem.W.Frag) : R2 := fun x y H Q => ∃ a b xs ys, x = .ref a ∧ y = .ref b ∧ SqT K H a xs ∧ SqT K H b ys ∧ ys ≠ [] ∧ xs.length + ys.length ≤ sizeLine ∧
  (xs = [] → Q (.ref b) H) ∧ (xs ≠ [] → ∀ p, H p = none → Q (.ref p) (upd H p (.tup (xs ++ ys))))
theorem cat_first {prog : Program} {w : World} {A : Around} {E : Value → Shared → Prop} {s : Shared} {t b : Addr} {ws : List Value} {Q : Value → Shared → Prop} (ht : IsTup s.heap t #[]) (hb : IsTup s.heap b ws.toArray) (q : Q (.ref b) s) :
    wpAny (model prog w) A (binaryOp .Add (.ref t) (.ref b)) Q E s := by
  obtain ⟨⟨c1, e1, x1, l1⟩, g1, k1, n1, y1⟩ := id ht
  obtain ⟨⟨c2, e2, x2, l2⟩, g2, k2, n2, y2⟩ := id hb
  simp only at k1 y1 k2 y2
  subst k1 y1 k2 y2
  exact concat_meets ⟨_, g1, rfl⟩ ⟨_, g2, rfl⟩ noFill_tuple_add seq_tuple_add PySem.F.slot_tuple_add PySem.F.entry_tuple_add (PySem.F.args_tuple_add_2 _ _) (tuple_addW0 t b #[] ws.toArray n1 n2 e1 e2 l1 l2 rfl) ⟨g1, g2, q⟩
theorem op_catA {X : Cx} : OpR X (binaryOp .Add) (rCatA X.K) := by
  intro pins s σ H x y v u Q I rx ry h
  obtain ⟨a, b, xs, ys, rfl, rfl, ha, hb, hy, hz, q1, q2⟩ := h
  by_cases hx : xs = []
  · subst hx
    cases rx
    cases ry
    obtain ⟨i1, r1, p1, _⟩ := I.tuple ha
    obtain ⟨i2, r2, p2, _⟩ := I.tuple hb
    have e : i1 = [] := r1.nil_iff.mpr rfl
    subst e
    exact cat_first p1 p2 ⟨.ref b, H, I, rfl, q1 rfl⟩
  · exact op_catT pins s σ H _ _ v u Q I rx ry ⟨a, b, xs, ys, rfl, rfl, ha, hb, hx, hz, fun z => absurd z hy, fun _ => q2 hx⟩
def rSlA (K : PySem.W.Frag) : L2.V → Option Int → Option Int → Hp → VK → Prop := fun x lo hi H Q => ∃ a xs, x = .ref a ∧ SqT K H a xs ∧
  ((HT.sIx xs.length 0 lo = 0 ∧ HT.sIx xs.length xs.length hi = xs.length) → Q (.ref a) H) ∧
  (¬ (HT.sIx xs.length 0 lo = 0 ∧ HT.sIx xs.length xs.length hi = xs.length) → ∀ p, H p = none → Q (.ref p) (upd H p (.tup (cutV xs lo hi))))
theorem tup_whole {prog : Program} {w : World} {A : Around} {E : Value → Shared → Prop} {s : Shared} {t sl : Addr} {xs : Array Value} {vl vu : Value} {lo hi : Option Int} {Q : Value → Shared → Prop} (ht : IsTup s.heap t xs) (hs : s.heap.IsSliceOf sl vl vu .none) (pl : IsPart vl lo) (pu : IsPart vu hi)
    (hw : HT.sIx xs.size 0 lo = 0 ∧ HT.sIx xs.size xs.size hi = xs.size) (q : Q (.ref t) s) : wpAny (model prog w) A (getItem (.ref t) (.ref sl)) Q E s := by
  obtain ⟨os, g, c, d⟩ := id hs
  have ty : s.TypeIs (.ref sl) "slice" := ⟨os, g, c⟩
  unfold getItem
  try with_reducible refine wpAny_holding ?_
  first | refine wpAny_bind (wpAny_pure ?_) | skip
  refine wpAny_bind (wpAny_sequenceKey ht.typeIs (by decide) ?_)
  refine wpAny_bind (wpAny_callSpecial?_slot (name := Str.ofString "__getitem__") ht.typeIs PyProof.Rows.slot_tuple_getitem (wpAny_call_entry PyProof.Rows.slot_tuple_getitem ht.typeIs entry_tuple_getitem ?_ (args_tuple_getitem _ _)))
  show wpAny _ _ (Builtin.Tuple.tupleItemsOf (.ref t) >>= _) _ _ s
  refine wpAny_bind (tupleItemsOf_ ht (wpAny_bind (wpAny_typeOf ty ?_)))
  rw [if_pos (by decide)]
  refine wpAny_bind (HT.sliceApplied_gen hs pl pu ?_)
  have yes : (((HT.sIx xs.size 0 lo : Nat) : Int) == 0 && (1 : Int) == 1 && (HT.sIx xs.size xs.size hi - HT.sIx xs.size 0 lo) == xs.size) = true := by
    rw [hw.1, hw.2]; simp
  show wpAny _ _ (if (((HT.sIx xs.size 0 lo : Nat) : Int) == 0 && (1 : Int) == 1 && (HT.sIx xs.size xs.size hi - HT.sIx xs.size 0 lo) == xs.size) = true then _ else _) _ _ s
  rw [if_pos yes]
  unfold Builtin.Tuple.tupleIsExact
  refine wpAny_bind (wpAny_bind (wpAny_typeOf ht.typeIs (wpAny_pure ?_)))
  rw [if_pos (by decide)]
  exact wpAny_bind (wpAny_rule (wpAny_pure ⟨_, rfl, wpAny_pure q⟩))
theorem sl_tupA {X : Cx} : SlR X (rSlA X.K) := by
  intro pins s σ H x v vl vu lo hi sl Q I rx hs pl pu h
  obtain ⟨a, xs, rfl, hx, q1, q2⟩ := h
  by_cases hw : HT.sIx xs.length 0 lo = 0 ∧ HT.sIx xs.length xs.length hi = xs.length
  · cases rx
    obtain ⟨its, r, ht, _⟩ := I.tuple hx
    have hl : its.toArray.size = xs.length := by rw [List.size_toArray]; exact r.length.symm
    refine ⟨"tuple", _, PyProof.Rows.slot_tuple_getitem.lookup, ht.typeIs, ?_⟩
    exact tup_whole ht hs pl pu (by rw [hl]; exact hw) ⟨.ref a, H, I, rfl, q1 hw⟩
  · exact sl_tup pins s σ H _ v vl vu lo hi sl Q I rx hs pl pu ⟨a, xs, rfl, hx, hw, q2 hw⟩
theorem lri_no_len : typeLookup (.type "list_reverseiterator") "__len__" = pure none := by rw [typeLookup_type, builtinLookup_eq_fast]; kernel_rfl
theorem lri_hint : typeLookup (.type "list_reverseiterator") "__length_hint__" = pure (some (.builtin "list_reverseiterator.__length_hint__")) := by rw [typeLookup_type, builtinLookup_eq_fast]; kernel_rfl
theorem hint_rev {prog : Program} {w : World} {A : Around} {E : Value → Shared → Prop} {s : Shared} {it l : Addr} {i : Int} {Q : Bool → Shared → Prop} (hit : s.heap.IsRevIter it l i) (q : Q false s) :
    wpAny (model prog w) A (Builtin.List.listLengthHint (.ref it)) Q E s := by
  unfold Builtin.List.listLengthHint
  refine wpAny_bind (wpAny_specialOf hit.typeIs lri_no_len ?_)
  show wpAny _ _ (specialOf (Value.ref it) (Str.ofString "__length_hint__") >>= _) _ _ _
  refine wpAny_bind (wpAny_specialOf hit.typeIs lri_hint ?_)
  generalize hid : ("list_reverseiterator.__length_hint__" : String) = id0
  wp_delta
  rw [show splitId id0 = some ("list_reverseiterator", "__length_hint__") from by subst hid; decide +kernel]
  subst hid
  refine wpAny_bind (wpAny_isInstance (T := "list_reverseiterator") (b := true) hit.typeIs (by rw [isSubtype_type]; kernel_rfl) ?_)
  refine wpAny_ite_split (fun z => absurd z (by decide)) (fun _ => ?_)
  refine wpAny_ite_split (fun _ => ?_) (fun z => absurd (by decide +kernel) z)
  refine wpAny_ite_split (fun z => absurd z (by decide)) (fun _ => ?_)
  exact wpAny_pure q
abbrev RevIs (xs : Array Value) : Nat → Value → Prop := fun i v => xs[xs.size - 1 - i]? = some v
section
variable {prog : Program} {w : World} {A : Around} {s : Shared} {it l : Addr} {xs : Array Value}
abbrev FinR (prog : Program) (w : World) (A : Around) (R : Result → Shared → Prop) : Fin → Shared → Prop := fun fin s' => match fin with | .done f => R (.ok f) s' | .again c' => c'.quiet = true ∧ codeAny (model prog w) A c' R s'
theorem ext_rev {R : Result → Shared → Prop} (hh : A.handled = none) (hit : s.heap.IsRevIter it l ((xs.size : Int) - 1)) (hl : s.heap.IsList l xs) (hne : l ≠ it) (hz : xs.size ≤ sizeLine) (S : Addr) (hSi : S ≠ it) (hSl : S ≠ l) (res : Value) (c0 : Nat)
    (hS : s.heap.get? S = some { cls := .type "list", data := .seq #[] c0 })
    (hR : ∀ h' tk acc c, (∀ b o, b ≠ S → b ≠ it → s.heap.get? b = some o → h'.get? b = some o) → h'.get? S = some { cls := .type "list", dict := none, data := .seq acc c, slots := #[] } → ItemsOf (RevIs xs) acc xs.size → R (.ok (.ret res)) { s with heap := h', toks := tk }) :
    wpAny (model prog w) A.in1 (Builtin.List.listExtendWith (.ref S) (.ref it) res) (FinR prog w A R) (fun e s' => R (.error e) s') s := by
  have W := (Walks.listRev (prog := prog) (w := w) (A := A.in1) hh it l hne xs).toS
  have hSf : S ∉ [it, l] := by simp [hSi, hSl]
  unfold Builtin.List.listExtendWith
  refine wpAny_bind (wpAny_typeOf hit.typeIs ?_)
  have b1 : Builtin.List.listSameRef (.ref S) (.ref it) = false := by simp [Builtin.List.listSameRef, hSi]
  have b2 : (Value.type "list_reverseiterator" == Value.type "list") = false := by decide
  have b3 : (Value.type "list_reverseiterator" == Value.type "tuple") = false := by decide
  simp only [b1, b2, b3, Bool.or_false, Bool.false_eq_true, if_false]
  refine wpAny_bind (wpAny_pyIter_revIter hit (wpAny_bind (wpAny_holding (hint_rev hit ?_))))
  refine wpAny_ite_split (fun z => absurd z (by decide +kernel)) (fun _ => ?_)
  refine wpAny_pure ⟨plainId_quiet F.plain_extend_loop _, codeAny_extend_loopS W hz S hSf res xs.size 0 s #[] c0 (by trivial) (Nat.zero_le _) ⟨Nat.zero_le _, by simpa using hit, hl⟩ hS (ItemsOf.nil _) fun s' acc c hm hS' ha => ?_⟩
  rw [Moved.eq_with hm]
  refine hR s'.heap s'.toks acc c (fun b o b1 b2 e => hm.heap b o (fun z => ?_) e) hS' ha
  rcases List.mem_cons.mp z with z | z
  · exact b1 z
  · exact b2 (List.mem_singleton.mp z)
theorem call_list_rev {E : Value → Shared → Prop} {Q : Value → Shared → Prop} (hh : A.handled = none) (hit : s.heap.IsRevIter it l ((xs.size : Int) - 1)) (hl : s.heap.IsList l xs) (hne : l ≠ it) (hz : xs.size ≤ sizeLine)
    (hQ : ∀ h' tk acc c, (∀ b o, b ≠ it → s.heap.get? b = some o → h'.get? b = some o) → h'.get? s.heap.objs.size = some { cls := .type "list", dict := none, data := .seq acc c, slots := #[] } → ItemsOf (RevIs xs) acc xs.size → Q (.ref s.heap.objs.size) { s with heap := h', toks := tk }) :
    wpAny (model prog w) A (call (.type "list") [.ref it]) Q E s := by
  refine callType_codes (Q₁ := fun ob s1 => ob = .ref s.heap.objs.size ∧ s1 = { s with heap := s.heap.push { cls := .type "list", data := .seq #[] } }) F.called_list (F.typeCall_list_1 _) F.entry_list_init (code_list_new _ ⟨rfl, rfl⟩) fun ob s1 h1 => ?_
  obtain ⟨rfl, rfl⟩ := h1
  have g0 : (s.heap.push { cls := .type "list", data := .seq #[] }).get? s.heap.objs.size = some { cls := .type "list", data := .seq #[] } := Heap.get?_push_size _ rfl
  have li : it < s.heap.objs.size := by obtain ⟨_, e, _⟩ := hit; exact Heap.lt_size e
  have ll : l < s.heap.objs.size := by obtain ⟨_, e, _⟩ := hl; exact Heap.lt_size e
  refine ⟨⟨_, g0, rfl⟩, F.args_list_init_2 _ _, ?_⟩
  show wpAny _ _ (do let old ← Builtin.List.listItems (.ref s.heap.objs.size); Builtin.List.listUpdate (.ref s.heap.objs.size) (fun _ => #[]); letGo old.toList.reverse; Builtin.List.listExtendWith (.ref s.heap.objs.size) (.ref it) .none) _ _ _
  refine wpAny_bind ?_
  unfold Builtin.List.listItems
  refine wpAny_bind (wpAny_seqItems g0 rfl (wpAny_pure ?_))
  show wpAny _ _ (updateSeq s.heap.objs.size (fun _ => #[]) >>= fun _ => letGo (#[] : Array Value).toList.reverse >>= fun _ => Builtin.List.listExtendWith (.ref s.heap.objs.size) (.ref it) .none) _ _ _
  refine wpAny_bind (wpAny_updateSeq g0 rfl ?_)
  have g1 := Heap.get?_update_self (Obj.mapSeq (fun _ => (#[] : Array Value))) g0 rfl
  have up : ∀ b o, b < s.heap.objs.size → s.heap.get? b = some o → ((s.heap.push { cls := .type "list", data := .seq #[] }).update s.heap.objs.size (Obj.mapSeq (fun _ => (#[] : Array Value)))).get? b = some o :=
    fun b o lb e => (Heap.get?_update_other _ _ (Nat.ne_of_gt lb)).trans (Heap.get?_push_of_some _ e)
  refine wpAny_bind (wpAny_letGo ?_)
  refine ext_rev (A := A.in1) hh (hit.at fun o e => up it o li e) (Heap.IsList.at hl fun o e => up l o ll e) hne hz _ (Nat.ne_of_gt li) (Nat.ne_of_gt ll) .none _ g1 fun h' tk acc c kp e ha => ?_
  exact ⟨rfl, hQ h' tk acc c (fun b o b2 eo => kp b o (Nat.ne_of_lt (Heap.lt_size eo)) b2 (up b o (Heap.lt_size eo) eo)) e ha⟩
end
theorem boot_listT : bootBuiltins "list" = some (.type "list") := by decide +kernel
theorem boot_tupleT : bootBuiltins "tuple" = some (.type "tuple") := by decide +kernel
def tLR (K : PySem.W.Frag) (ta : TA) : TE := fun σ H Q => ta σ H fun vs H1 => ∃ a xs, vs = [.ref a] ∧ SqL K H1 a xs ∧ ∀ l, H1 l = none → Q (.ref l) (upd H1 l (.lst xs.reverse))
theorem pe_listrev {X : Cx} {e : Expr} {ta : TA} {p pos p2 pos2 : Pos} (hc : X.calm = true) (hgl : Gl X "list") (hml : X.mg "list" = none) (hgr : Gl X "reversed") (hmr : X.mg "reversed" = none) (ha : PA X [e] ta)
    (hs : starEach [e] X.env = [(false, eval e X.env)] := by rfl) (hs2 : starEach [.Call (.Name "reversed" p2) [e] [] pos2] X.env = [(false, eval (.Call (.Name "reversed" p2) [e] [] pos2) X.env)] := by rfl) :
    PE X (.Call (.Name "list" p) [.Call (.Name "reversed" p2) [e] [] pos2] [] pos) (tLR X.K ta) := by
  intro pins s σ H Q I h
  refine wpAny_Call_Name_kw (ld_blt I hgl hml boot_listT (PyProof.Rows.callWith_type1 ?_ hs2 rfl))
  rw [hs2]
  show wpAny _ _ (spliced ((false, eval (.Call (.Name "reversed" p2) [e] [] pos2) X.env) :: backTo pos [])) _ _ s
  refine Calls.spliced_cons ?_
  refine wpAny_Call_Name_kw (ld_blt I hgr hmr boot_reversed5 (PyProof.Rows.callWith_type1 (thn (ha pos2 pins s σ H _ I h) fun us s1 ⟨vs, H1, I1, r1, q1⟩ => ?_) hs rfl))
  obtain ⟨a, xs, ev, hq, q⟩ := q1
  subst ev
  obtain ⟨u, rfl, ru⟩ := vals1 r1
  cases ru
  obtain ⟨its, rv, pl, hz⟩ := I1.list hq
  have hlen := rv.length
  have la : a < s1.heap.objs.size := pl.lt
  refine call_reversed_list pl.isList (Calls.spliced_nil ?_)
  have hsz : (s1.heap.push (revObj a ((its.toArray.size : Int) - 1))).objs.size = s1.heap.objs.size + 1 := Heap.size_push ..
  refine call_list_rev (s := { s1 with heap := s1.heap.push (revObj a ((its.toArray.size : Int) - 1)) }) (it := s1.heap.objs.size) (l := a) (xs := its.toArray) (I1.ok.hd hc) ⟨_, Heap.get?_push_size _ rfl, rfl, rfl⟩
    (Heap.IsList.push pl.isList _) (Nat.ne_of_lt la) (by rw [List.size_toArray, ← hlen]; exact hz) fun h' tk acc c kp e' hacc => ?_
  have hacc' : acc.toList = its.reverse := by
    apply List.ext_getElem?
    intro i
    have h1 : acc.size = its.length := hacc.1.trans List.size_toArray
    by_cases hi : i < its.length
    · have h2 := hacc.2 i (acc[i]'(by trivial)) (Array.getElem?_eq_getElem (by trivial))
      rw [List.getElem?_reverse hi]
      unfold RevIs at h2
      rw [List.size_toArray, List.getElem?_toArray] at h2
      rw [h2, Array.getElem?_toList, Array.getElem?_eq_getElem (by trivial)]
    · rw [List.getElem?_eq_none (by rw [Array.length_toList]; trivial), List.getElem?_eq_none (by rw [List.length_reverse]; trivial)]
  have ea : acc = its.reverse.toArray := by rw [← hacc']
  subst ea
  rw [hsz] at e'
  show EP X pins σ Q (.ref (s1.heap.push (revObj a ((its.toArray.size : Int) - 1))).objs.size) _
  rw [hsz]
  refine ⟨.ref (s1.heap.objs.size + 1), _, I1.laid (t' := tk) (a := s1.heap.objs.size + 1) (o := .lst xs.reverse) (fun b o eo => kp b o (Nat.ne_of_lt (Heap.lt_size eo)) (Heap.get?_push_of_some _ eo)) (Nat.le_succ _) ?_, rfl, q _ (I1.hok.fresh (Nat.le_succ _))⟩
  exact ⟨by rw [List.length_reverse]; exact hz, its.reverse, c, rv.reverse, e'⟩
end Pr
end
section
local macro_rules | `(tactic| trivial) => `(tactic| first | lia -abstractProof | omega)
set_option Elab.async false
set_option linter.all false
set_option maxRecDepth 100000
set_option maxHeartbeats 2000000
namespace Pr
open PySem PySem.Spec PyProof.Rows L2
section
variable {prog : Program} {w : World} {A : Around} {E : Value → Shared → Prop} {s : Shared}
theorem IsTupIter.at' {h h' : Heap} {a t : Addr} {i : Nat} (x : IsTupIter h a t i) (e : ∀ o, h.get? a = some o → h'.get? a = some o) : IsTupIter h' a t i := let ⟨o, g, r⟩ := x; ⟨o, e o g, r⟩
theorem IsTup.at' {h h' : Heap} {a : Addr} {v : Array Value} (x : IsTup h a v) (e : ∀ o, h.get? a = some o → h'.get? a = some o) : IsTup h' a v := let ⟨o, g, r⟩ := x; ⟨o, e o g, r⟩
theorem tnext_item {j t : Addr} {i : Nat} {vs : Array Value} {x : Value} {Q : Value → Shared → Prop} (it : IsTupIter s.heap j t i) (tp : IsTup s.heap t vs) (hx : vs[i]? = some x)
    (q : ∀ h', IsTupIter h' j t (i + 1) → Heap.SameBut j s.heap h' → Q x { s with heap := h' }) : wpAny (model prog w) A (Builtin.SmallTypes.nextOf (.ref j)) Q E s := by
  obtain ⟨o, g, c, d⟩ := id it
  obtain ⟨o2, g2, _, n2, d2⟩ := tp
  unfold Builtin.SmallTypes.nextOf
  refine wpAny_bind (wpAny_callSpecial?_slot (name := Str.ofString "__next__") it.typeIs slot_tupleiter_next (wpAny_call_entry slot_tupleiter_next it.typeIs entry_tupleiter_next ?_ (args_tupleiter_next _)))
  show wpAny _ _ (field (.ref j) 0 >>= _) _ _ s
  refine wpAny_bind (wpAny_field g d (x := .ref t) rfl ?_)
  show wpAny _ _ (if (Value.ref t == Value.none) = true then _ else _) _ _ _
  rw [if_neg (show ¬ (Value.ref t == Value.none) = true from fun z => Bool.false_ne_true z)]
  show wpAny _ _ (field (.ref j) 1 >>= _) _ _ s
  refine wpAny_bind (wpAny_field g d (x := .int i 0) rfl ?_)
  show wpAny _ _ (seqItems? (.ref t) >>= _) _ _ _
  refine wpAny_bind (wpAny_seqItems g2 d2 ?_)
  simp only [Int.toNat_natCast, hx]
  refine wpAny_bind (wpAny_setField g d (by simp) (wpAny_pure ⟨x, rfl, wpAny_pure (q _ ?_ (Heap.SameBut.update ..))⟩))
  exact ⟨_, Heap.get?_update_self _ g (Obj.isFreed_of_fields (Obj.data_mapFields d _)), (Obj.cls_mapFields ..).trans c, by rw [Obj.data_mapFields d]; simp [rawInt]⟩
theorem tnext_end {j t : Addr} {i : Nat} {vs : Array Value} {Q : Value → Shared → Prop} (hh : A.handled = none) (it : IsTupIter s.heap j t i) (tp : IsTup s.heap t vs) (hx : vs[i]? = none)
    (q : ∀ h' e, Heap.ExtBut j s.heap h' → (∃ o, h'.get? e = some o ∧ o.cls = .type "StopIteration") → E (.ref e) { s with heap := h' }) : wpAny (model prog w) A (Builtin.SmallTypes.nextOf (.ref j)) Q E s := by
  obtain ⟨o, g, c, d⟩ := id it
  obtain ⟨o2, g2, _, n2, d2⟩ := tp
  unfold Builtin.SmallTypes.nextOf
  refine wpAny_bind (wpAny_callSpecial?_slot (name := Str.ofString "__next__") it.typeIs slot_tupleiter_next (wpAny_call_entry slot_tupleiter_next it.typeIs entry_tupleiter_next ?_ (args_tupleiter_next _)))
  show wpAny _ _ (field (.ref j) 0 >>= _) _ _ s
  refine wpAny_bind (wpAny_field g d (x := .ref t) rfl ?_)
  show wpAny _ _ (if (Value.ref t == Value.none) = true then _ else _) _ _ _
  rw [if_neg (show ¬ (Value.ref t == Value.none) = true from fun z => Bool.false_ne_true z)]
  show wpAny _ _ (field (.ref j) 1 >>= _) _ _ s
  refine wpAny_bind (wpAny_field g d (x := .int i 0) rfl ?_)
  show wpAny _ _ (seqItems? (.ref t) >>= _) _ _ _
  refine wpAny_bind (wpAny_seqItems g2 d2 ?_)
  simp only [Int.toNat_natCast, hx]
  refine wpAny_bind (wpAny_rule (wpAny_bind (wpAny_setField g d (by simp) ?_)))
  show wpAny _ _ (newExc (.type "StopIteration") [] >>= _) _ _ _
  refine wpAny_bind (m := newExc (.type "StopIteration") []) ?_
  simp only [newExc, newTuple]
  refine wpAny_bind (wpAny_newObj_type (wpAny_bind (m := firstArgMember _ _) (wpAny_of_eq (a := Value.none) (by first | rfl | (simp only [firstArgMember]; rfl)) (wpAny_newObj_type ?_ (by size_fits)))) (by size_fits))
  simp only [raiseNew]
  refine wpAny_bind (wpAny_handled ?_)
  first | rw [show A.in1.handled = none from hh] | rw [hh]
  exact wpAny_bind (wpAny_pure (wpAny_throw (q _ _ (((Heap.SameBut.update ..).extBut.push _).push _) ⟨_, Heap.get?_push_size _ rfl, rfl⟩)))
variable {z TI TO i1 i2 t1 t2 : Addr} {k1 k2 : Nat} {xs ys : Array Value} {a b : Value}
theorem tzip_item {x y : Value} {Q : Value → Shared → Prop} (D : ZipApart z TI TO i1 i2 t1 t2) (gz : IsZip s.heap z TI TO .none) (gI : IsPair s.heap TI (.ref i1) (.ref i2)) (gO : IsPair s.heap TO a b)
    (h1 : IsTupIter s.heap i1 t1 k1) (h2 : IsTupIter s.heap i2 t2 k2) (l1 : IsTup s.heap t1 xs) (l2 : IsTup s.heap t2 ys) (hx : xs[k1]? = some x) (hy : ys[k2]? = some y)
    (q : ∀ h', IsZip h' z TI TO (rawInt s.heap.objs.size) → IsPair h' TO x y → IsTupIter h' i1 t1 (k1 + 1) → IsTupIter h' i2 t2 (k2 + 1) → IsPair h' s.heap.objs.size x y → h'.objs.size = s.heap.objs.size + 1 →
      (∀ c o, c ≠ z → c ≠ TO → c ≠ i1 → c ≠ i2 → s.heap.get? c = some o → h'.get? c = some o) → Q (.ref s.heap.objs.size) { s with heap := h' }) :
    wpAny (model prog w) A (Builtin.«zip.__next__» ⟨[.ref z], []⟩) (fun fin s' => ∃ v, fin = .done (.ret v) ∧ Q v s') E s := by
  show wpAny _ _ (field (.ref z) 2 >>= _) _ _ s
  refine wpAny_bind (wpAny_field gz rfl (x := .bool false) rfl ?_)
  show wpAny _ _ (field (.ref z) 3 >>= _) _ _ s
  refine wpAny_bind (wpAny_field gz rfl (x := .ref TI) rfl (wpAny_bind (wpAny_seqItems gI rfl ?_)))
  show wpAny _ _ (Builtin.SmallTypes.ownedTupleIsFree (.ref z) >>= _) _ _ s
  refine wpAny_bind (m := Builtin.SmallTypes.ownedTupleIsFree (.ref z)) ?_
  unfold Builtin.SmallTypes.ownedTupleIsFree
  refine wpAny_bind (wpAny_field gz rfl (x := .none) rfl (wpAny_pure ?_))
  simp only [if_true]
  refine wpAny_bind (wpAny_rule (wpAny_bind (wpAny_field gz rfl (x := .ref TO) rfl ?_)))
  refine wpAny_bind (wpAny_setField_rec gz (by simp) fun m1 gz1 b1 => ?_)
  replace gz1 : IsZip m1 z TI TO .ellipsis := gz1
  refine wpAny_bind ?_
  simp only [List.zipIdx_cons, List.zipIdx_nil, List.forIn_cons, List.forIn_nil]
  refine wpAny_bind (wpAny_bind (wpAny_onRaise ?_))
  show wpAny _ _ (Builtin.SmallTypes.nextOf (.ref i1) >>= _) _ _ _
  refine wpAny_bind (tnext_item (h1.extBut b1.extBut D.i1z) (l1.extBut b1.extBut D.l1z) hx fun m2 n1 b2 => wpAny_pure ?_)
  have gO2 : IsPair m2 TO a b := b2.extBut _ _ D.TOi1 (b1.extBut _ _ D.TOz gO)
  refine wpAny_bind (wpAny_seqItems gO2 rfl (wpAny_bind (wpAny_updateSeq_pair gO2 fun m3 gO3 b3 => ?_)))
  replace gO3 : IsPair m3 TO x b := gO3
  refine wpAny_bind (wpAny_letGo (wpAny_pure (wpAny_bind (wpAny_bind (wpAny_onRaise ?_)))))
  show wpAny _ _ (Builtin.SmallTypes.nextOf (.ref i2) >>= _) _ _ _
  refine wpAny_bind (tnext_item (((h2.extBut b1.extBut D.i2z).extBut b2.extBut D.i12.symm).extBut b3.extBut D.TOi2.symm) (((l2.extBut b1.extBut D.l2z).extBut b2.extBut D.l2i1).extBut b3.extBut D.l2TO) hy fun m4 n2 b4 => wpAny_pure ?_)
  have gO4 : IsPair m4 TO x b := b4.extBut _ _ D.TOi2 gO3
  refine wpAny_bind (wpAny_seqItems gO4 rfl (wpAny_bind (wpAny_updateSeq_pair gO4 fun m5 gO5 b5 => ?_)))
  replace gO5 : IsPair m5 TO x y := gO5
  refine wpAny_bind (wpAny_letGo (wpAny_pure (wpAny_pure (wpAny_bind (wpAny_seqItems gO5 rfl (wpAny_bind (wpAny_newTuple ?_)))))))
  have sz : m5.objs.size = s.heap.objs.size := by rw [b5.1, b4.1, b3.1, b2.1, b1.1]
  have gz5 : IsZip m5 z TI TO .ellipsis := b5.extBut _ _ D.TOz.symm (b4.extBut _ _ D.i2z.symm (b3.extBut _ _ D.TOz.symm (b2.extBut _ _ D.i1z.symm gz1)))
  have kp : ∀ c o, c ≠ z → c ≠ TO → c ≠ i1 → c ≠ i2 → s.heap.get? c = some o → m5.get? c = some o := fun c o c1 c2 c3 c4 e =>
    b5.extBut _ _ c2 (b4.extBut _ _ c4 (b3.extBut _ _ c2 (b2.extBut _ _ c3 (b1.extBut _ _ c1 e))))
  have n1' : IsTupIter m5 i1 t1 (k1 + 1) := ((n1.extBut b3.extBut D.TOi1.symm).extBut b4.extBut D.i12).extBut b5.extBut D.TOi1.symm
  have n2' : IsTupIter m5 i2 t2 (k2 + 1) := n2.extBut b5.extBut D.TOi2.symm
  have zlt : z < m5.objs.size := Heap.lt_size gz5
  show wpAny _ _ (Builtin.SmallTypes.ownedTupleHandOut (.ref z) (.ref m5.objs.size) >>= _) _ _ _
  refine wpAny_bind (m := Builtin.SmallTypes.ownedTupleHandOut (.ref z) (.ref m5.objs.size)) ?_
  unfold Builtin.SmallTypes.ownedTupleHandOut
  have gz6 : IsZip (m5.push { cls := .type "tuple", data := .seq #[x, y] }) z TI TO .ellipsis := Heap.get?_push_of_some _ gz5
  refine wpAny_bind (wpAny_setField_rec gz6 (by simp) fun m7 gz7 b7 => ?_)
  replace gz7 : IsZip m7 z TI TO (rawInt m5.objs.size) := gz7
  refine wpAny_setField_rec gz7 (by simp) fun m8 gz8 b8 => ?_
  replace gz8 : IsZip m8 z TI TO (rawInt m5.objs.size) := gz8
  have up : ∀ c o, c ≠ z → m5.get? c = some o → m8.get? c = some o := fun c o c1 e => b8.extBut _ _ c1 (b7.extBut _ _ c1 (Heap.get?_push_of_some _ e))
  have gT : IsPair m8 m5.objs.size x y := b8.extBut _ _ (Nat.ne_of_gt zlt) (b7.extBut _ _ (Nat.ne_of_gt zlt) (Heap.get?_push_size _ rfl))
  have sz8 : m8.objs.size = m5.objs.size + 1 := by rw [b8.1, b7.1, Heap.size_push]
  rw [sz] at gz8 gT sz8
  refine wpAny_pure ⟨_, rfl, ?_⟩
  show Q (.ref m5.objs.size) _
  rw [sz]
  exact q m8 gz8 (up _ _ D.TOz gO5) (IsTupIter.at' n1' fun o e => up _ o D.i1z e) (IsTupIter.at' n2' fun o e => up _ o D.i2z e) gT sz8 fun c o c1 c2 c3 c4 e => up c o c1 (kp c o c1 c2 c3 c4 e)
theorem tzip_end {Q : Fin → Shared → Prop} (hh : A.handled = none) (D : ZipApart z TI TO i1 i2 t1 t2) (gz : IsZip s.heap z TI TO .none) (gI : IsPair s.heap TI (.ref i1) (.ref i2)) (gO : IsPair s.heap TO a b)
    (h1 : IsTupIter s.heap i1 t1 k1) (l1 : IsTup s.heap t1 xs) (hx : xs[k1]? = none)
    (q : ∀ h' e, (∀ c o, c ≠ z → c ≠ TO → c ≠ i1 → c ≠ i2 → s.heap.get? c = some o → h'.get? c = some o) → (∃ o, h'.get? e = some o ∧ o.cls = .type "StopIteration") → E (.ref e) { s with heap := h' }) :
    wpAny (model prog w) A (Builtin.«zip.__next__» ⟨[.ref z], []⟩) Q E s := by
  show wpAny _ _ (field (.ref z) 2 >>= _) _ _ s
  refine wpAny_bind (wpAny_field gz rfl (x := .bool false) rfl ?_)
  show wpAny _ _ (field (.ref z) 3 >>= _) _ _ s
  refine wpAny_bind (wpAny_field gz rfl (x := .ref TI) rfl (wpAny_bind (wpAny_seqItems gI rfl ?_)))
  show wpAny _ _ (Builtin.SmallTypes.ownedTupleIsFree (.ref z) >>= _) _ _ s
  refine wpAny_bind (m := Builtin.SmallTypes.ownedTupleIsFree (.ref z)) ?_
  unfold Builtin.SmallTypes.ownedTupleIsFree
  refine wpAny_bind (wpAny_field gz rfl (x := .none) rfl (wpAny_pure ?_))
  simp only [if_true]
  refine wpAny_bind (wpAny_rule (wpAny_bind (wpAny_field gz rfl (x := .ref TO) rfl ?_)))
  refine wpAny_bind (wpAny_setField_rec gz (by simp) fun m1 gz1 b1 => ?_)
  replace gz1 : IsZip m1 z TI TO .ellipsis := gz1
  refine wpAny_bind ?_
  simp only [List.zipIdx_cons, List.zipIdx_nil, List.forIn_cons, List.forIn_nil]
  refine wpAny_bind (wpAny_bind (wpAny_onRaise ?_))
  show wpAny _ _ (Builtin.SmallTypes.nextOf (.ref i1) >>= _) _ _ _
  refine wpAny_bind (tnext_end hh (h1.extBut b1.extBut D.i1z) (l1.extBut b1.extBut D.l1z) hx fun m2 e b2 he => ?_)
  obtain ⟨oe, ge, ce⟩ := he
  have gz2 : IsZip m2 z TI TO .ellipsis := b2 _ _ D.i1z.symm gz1
  have ez : e ≠ z := fun w => by subst w; rw [gz2] at ge; cases ge; simp at ce
  exact wpAny_setField_rec gz2 (by simp) fun m3 _ b3 => q m3 e (fun c o c1 _ c3 _ w => b3.extBut _ _ c1 (b2 _ _ c3 (b1.extBut _ _ c1 w))) ⟨oe, b3.extBut _ _ ez ge, ce⟩
theorem tzip_next_item {x y : Value} {Q : Option Value → Shared → Prop} (D : ZipApart z TI TO i1 i2 t1 t2) (gz : IsZip s.heap z TI TO .none) (gI : IsPair s.heap TI (.ref i1) (.ref i2)) (gO : IsPair s.heap TO a b)
    (h1 : IsTupIter s.heap i1 t1 k1) (h2 : IsTupIter s.heap i2 t2 k2) (l1 : IsTup s.heap t1 xs) (l2 : IsTup s.heap t2 ys) (hx : xs[k1]? = some x) (hy : ys[k2]? = some y)
    (q : ∀ h', IsZip h' z TI TO (rawInt s.heap.objs.size) → IsPair h' TO x y → IsTupIter h' i1 t1 (k1 + 1) → IsTupIter h' i2 t2 (k2 + 1) → IsPair h' s.heap.objs.size x y → h'.objs.size = s.heap.objs.size + 1 →
      (∀ c o, c ≠ z → c ≠ TO → c ≠ i1 → c ≠ i2 → s.heap.get? c = some o → h'.get? c = some o) → Q (some (.ref s.heap.objs.size)) { s with heap := h' }) : wpAny (model prog w) A (pyNext (.ref z)) Q E s := by
  have ty : s.TypeIs (.ref z) "zip" := ⟨_, gz, rfl⟩
  unfold pyNext
  exact wpAny_bind (wpAny_attempt (wpAny_callSpecial?_slot (name := Str.ofString "__next__") ty F.slot_zip_next (wpAny_call_entry F.slot_zip_next ty F.entry_zip_next
      (tzip_item D gz gI gO h1 h2 l1 l2 hx hy fun h' e1 e2 e3 e4 e5 e6 e7 => wpAny_pure (q h' e1 e2 e3 e4 e5 e6 e7)) (F.args_zip_next_1 _))))
theorem tzip_next_end {Q : Option Value → Shared → Prop} (hh : A.handled = none) (D : ZipApart z TI TO i1 i2 t1 t2) (gz : IsZip s.heap z TI TO .none) (gI : IsPair s.heap TI (.ref i1) (.ref i2)) (gO : IsPair s.heap TO a b)
    (h1 : IsTupIter s.heap i1 t1 k1) (l1 : IsTup s.heap t1 xs) (hx : xs[k1]? = none)
    (q : ∀ h', (∀ c o, c ≠ z → c ≠ TO → c ≠ i1 → c ≠ i2 → s.heap.get? c = some o → h'.get? c = some o) → Q none { s with heap := h' }) : wpAny (model prog w) A (pyNext (.ref z)) Q E s := by
  have ty : s.TypeIs (.ref z) "zip" := ⟨_, gz, rfl⟩
  unfold pyNext
  refine wpAny_bind (wpAny_attempt (wpAny_callSpecial?_slot (name := Str.ofString "__next__") ty F.slot_zip_next (wpAny_call_entry F.slot_zip_next ty F.entry_zip_next
    (tzip_end hh D gz gI gO h1 l1 hx fun h' e kp he => ?_) (F.args_zip_next_1 _))))
  obtain ⟨o, g, c⟩ := he
  exact wpAny_bind (wpAny_isInstance (T := "StopIteration") (b := true) ⟨o, g, c⟩ isSubtype_stop (wpAny_pure (q _ kp)))
end
abbrev tIt (t : Addr) : Obj := { cls := .type "tuple_iterator", data := .fields #[.ref t, .int 0 0] }
abbrev tzH (h : Heap) (t1 t2 : Addr) : Heap := ((((h.push (tIt t1)).push (tIt t2)).push { cls := .type "tuple", data := .seq #[.ref h.objs.size, .ref (h.push (tIt t1)).objs.size] }).push { cls := .type "tuple", data := .seq #[.none, .none] }).push
  { cls := .type "zip", data := .fields #[.none, .bool false, .bool false, .ref ((h.push (tIt t1)).push (tIt t2)).objs.size, .ref (((h.push (tIt t1)).push (tIt t2)).push { cls := .type "tuple", data := .seq #[.ref h.objs.size, .ref (h.push (tIt t1)).objs.size] }).objs.size] }
abbrev tzA (h : Heap) (t1 t2 : Addr) : Addr := ((((h.push (tIt t1)).push (tIt t2)).push { cls := .type "tuple", data := .seq #[.ref h.objs.size, .ref (h.push (tIt t1)).objs.size] }).push { cls := .type "tuple", data := .seq #[.none, .none] }).objs.size
theorem tzip_new (t1 t2 : Addr) (xs ys : Array Value) :
    Meets (Builtin.«zip.__new__» ⟨[.type "zip", .ref t1, .ref t2], []⟩) (fun _ R s => IsTup s.heap t1 xs ∧ IsTup s.heap t2 ys ∧ R (.ok (.ret (.ref (tzA s.heap t1 t2)))) { s with heap := tzH s.heap t1 t2 }) :=
  .of_wp fun prog w A R s h => by
    obtain ⟨hp, g, d, tk, os⟩ := s; obtain ⟨l1, l2, h⟩ := h
    have hsub := sub_zip
    have L1 : IsTup (Shared.heap ⟨hp, g, d, tk, os⟩) t1 xs := l1
    have L2 : IsTup (Shared.heap ⟨hp.push (tIt t1), g, d, tk, os⟩) t2 ys := IsTup.push l2 _
    wp_walk using iter_tuple L1, iter_tuple L2
    exact ⟨_, rfl, h⟩
theorem tzip_call {prog : Program} {w : World} {A : Around} {E : Value → Shared → Prop} {s : Shared} {t1 t2 : Addr} {xs ys : Array Value} {Q : Value → Shared → Prop} (l1 : IsTup s.heap t1 xs) (l2 : IsTup s.heap t2 ys)
    (q : ∀ h', IsZip h' (s.heap.objs.size + 4) (s.heap.objs.size + 2) (s.heap.objs.size + 3) .none → IsPair h' (s.heap.objs.size + 2) (.ref s.heap.objs.size) (.ref (s.heap.objs.size + 1)) →
      IsPair h' (s.heap.objs.size + 3) .none .none → IsTupIter h' s.heap.objs.size t1 0 → IsTupIter h' (s.heap.objs.size + 1) t2 0 → (∀ c o, s.heap.get? c = some o → h'.get? c = some o) → Q (.ref (s.heap.objs.size + 4)) { s with heap := h' }) :
    wpAny (model prog w) A (call (.type "zip") [.ref t1, .ref t2]) Q E s := by
  refine callType_new F.called_zip (by decide) (F.typeCall_zip_2 _ _) (F.newCall_zip_2 _ _) (fun obj => F.args_object_init_3 obj _ _) F.entry_zip_new (tzip_new t1 t2 xs ys) ⟨l1, l2, ?_⟩
  have sz : ∀ (h : Heap) (o : Obj), (h.push o).objs.size = h.objs.size + 1 := fun h o => Heap.size_push ..
  have p0 : ∀ {h : Heap} {c : Addr} (o o' : Obj), h.get? c = some o' → (h.push o).get? c = some o' := fun o o' e => Heap.get?_push_of_some _ e
  have s1 := sz s.heap (tIt t1)
  have s2 := sz (s.heap.push (tIt t1)) (tIt t2)
  have s3 := sz ((s.heap.push (tIt t1)).push (tIt t2)) { cls := .type "tuple", data := .seq #[.ref s.heap.objs.size, .ref (s.heap.push (tIt t1)).objs.size] }
  have s4 := sz (((s.heap.push (tIt t1)).push (tIt t2)).push { cls := .type "tuple", data := .seq #[.ref s.heap.objs.size, .ref (s.heap.push (tIt t1)).objs.size] }) { cls := .type "tuple", data := .seq #[.none, .none] }
  have a4 : tzA s.heap t1 t2 = s.heap.objs.size + 4 := by show Array.size _ = _; rw [s4, s3, s2, s1]
  have g5 : (tzH s.heap t1 t2).get? (tzA s.heap t1 t2) = some _ := Heap.get?_push_size _ rfl
  have g4 : (tzH s.heap t1 t2).get? (((s.heap.push (tIt t1)).push (tIt t2)).push { cls := .type "tuple", data := .seq #[.ref s.heap.objs.size, .ref (s.heap.push (tIt t1)).objs.size] }).objs.size = some _ := p0 _ _ (Heap.get?_push_size _ rfl)
  have g3 : (tzH s.heap t1 t2).get? ((s.heap.push (tIt t1)).push (tIt t2)).objs.size = some _ := p0 _ _ (p0 _ _ (Heap.get?_push_size _ rfl))
  have g2 : (tzH s.heap t1 t2).get? (s.heap.push (tIt t1)).objs.size = some _ := p0 _ _ (p0 _ _ (p0 _ _ (Heap.get?_push_size _ rfl)))
  have g1 : (tzH s.heap t1 t2).get? s.heap.objs.size = some _ := p0 _ _ (p0 _ _ (p0 _ _ (p0 _ _ (Heap.get?_push_size _ rfl))))
  show _ ∧ _
  rw [s3, s2, s1] at g4
  rw [s2, s1] at g3
  rw [s1] at g2
  rw [a4, s3, s2, s1] at g5
  rw [a4]
  exact ⟨⟨_, g5, rfl⟩, q _ g5 g3 g4 ⟨_, g1, rfl, rfl⟩ ⟨_, g2, rfl, rfl⟩ fun c o e => p0 _ _ (p0 _ _ (p0 _ _ (p0 _ _ (p0 _ _ e))))⟩
def Ity (K : PySem.W.Frag) (a b : Addr) (n : Nat) : It :=
  ⟨fun i H => ∃ (xs ys : List L2.V) (x y : L2.V), SqT K H a xs ∧ SqT K H b ys ∧ xs[i]? = some x ∧ ys[i]? = some y,
    fun i H v H' => ∃ T x y, v = .ref T ∧ H T = none ∧ H' = upd H T (.tup [x, y]) ∧ (∀ xs, SqT K H a xs → xs[i]? = some x) ∧ ∀ ys, SqT K H b ys → ys[i]? = some y,
    fun i H => n ≤ i ∧ ∃ xs : List L2.V, SqT K H a xs ∧ xs.length = n⟩
theorem turn_tzip {P : Program} {w : World} {K : PySem.W.Frag} {elts : List Expr} {kk n : Nat} {tpos : Pos} {a b z TI TO i1 i2 : Addr} (D : ZipApart z TI TO i1 i2 a b) :
    Turn P w K (.Tuple elts kk tpos) (Ity K a b n) [z, TI, TO, i1, i2] z (fun i h => IsZip h z TI TO .none ∧ IsPair h TI (.ref i1) (.ref i2) ∧ (∃ x y, IsPair h TO x y) ∧ IsTupIter h i1 a i ∧ IsTupIter h i2 b i) where
  mem := by simp
  obj := fun i h st c hc => by
    obtain ⟨gz, gI, ⟨x, y, gO⟩, ⟨o1, e1, _, d1⟩, ⟨o2, e2, _, d2⟩⟩ := st
    have e' : c = z ∨ c = TI ∨ c = TO ∨ c = i1 ∨ c = i2 := by simpa using hc
    rcases e' with q | q | q | q | q <;> rw [q]
    · exact ⟨_, gz, fun v q => nomatch q⟩
    · exact ⟨_, gI, fun v q => nomatch q⟩
    · exact ⟨_, gO, fun v q => nomatch q⟩
    · exact ⟨o1, e1, fun v q => by rw [d1] at q; cases q⟩
    · exact ⟨o2, e2, fun v q => by rw [d2] at q; cases q⟩
  keep := fun i h h' st k => by
    obtain ⟨gz, gI, ⟨x, y, gO⟩, h1, h2⟩ := st
    exact ⟨k z (by simp) _ gz, k TI (by simp) _ gI, ⟨x, y, k TO (by simp) _ gO⟩, IsTupIter.at' h1 fun o q => k i1 (by simp) o q, IsTupIter.at' h2 fun o q => k i2 (by simp) o q⟩
  item := by
    intro X hP hw hK hc i pins s σ H E I hf st hg
    subst hP hw hK
    obtain ⟨gz, gI, ⟨x0, y0, gO⟩, h1, h2⟩ := st
    obtain ⟨xs, ys, x, y, qx, qy, hx, hy⟩ := hg
    obtain ⟨v1, r1, p1, _⟩ := I.tuple qx
    obtain ⟨v2, r2, p2, _⟩ := I.tuple qy
    obtain ⟨u, hu, ru⟩ := r1.get hx
    obtain ⟨u2, hu2, ru2⟩ := r2.get hy
    have zl : z < s.heap.objs.size := Heap.lt_size gz
    refine tzip_next_item D gz gI gO h1 h2 p1 p2 (x := u) (y := u2) (by simpa using hu) (by simpa using hu2) fun h' gz' gO' n1 n2 gT sz kp => ?_
    refine ⟨_, rfl, wpAny_letOwnedTupleGo_zip (s := { s with heap := h' }) gz' fun h'' gz'' sb => ?_⟩
    have gT2 : h''.get? s.heap.objs.size = some { cls := .type "tuple", data := .seq #[u, u2] } := (sb.2 _ (Nat.ne_of_gt zl)).trans gT
    have new : ObjOk X.prog X.w (upd H s.heap.objs.size (.tup [x, y])) h'' s.heap.objs.size (.tup [x, y]) := ⟨by show 2 ≤ sizeLine; decide, [u, u2], .cons ru (.cons ru2 .nil), ⟨_, gT2, rfl, _, rfl⟩⟩
    have I1 : Inv X pins σ (upd H s.heap.objs.size (.tup [x, y])) { s with heap := h'' } := I.turnedNew (t' := s.toks) (ch := [z, TI, TO, i1, i2]) (fun c o hb q =>
      (sb.2 c (fun q' => hb (by simp [q']))).trans (kp c o (fun q' => hb (by simp [q'])) (fun q' => hb (by simp [q'])) (fun q' => hb (by simp [q'])) (fun q' => hb (by simp [q'])) q)) hf (Nat.le_refl _) new
    refine ⟨.ref s.heap.objs.size, _, I1, rfl, ⟨_, x, y, rfl, I.hok.fresh (Nat.le_refl _), rfl, fun l hl => ?_, fun l hl => ?_⟩, ⟨gz'', ?_, ⟨u, u2, ?_⟩, ?_, ?_⟩, fun c hcm => ?_⟩
    · rw [I.tuple_inj hl qx]; exact hx
    · rw [I.tuple_inj hl qy]; exact hy
    · exact (sb.2 _ D.TIz).trans (kp _ _ D.TIz D.TITO D.TIi1 D.TIi2 gI)
    · exact (sb.2 _ D.TOz).trans gO'
    · exact IsTupIter.at' n1 fun o q => (sb.2 _ D.i1z).trans q
    · exact IsTupIter.at' n2 fun o q => (sb.2 _ D.i2z).trans q
    · have hlt : c < s.heap.objs.size := by
        have e' : c = z ∨ c = TI ∨ c = TO ∨ c = i1 ∨ c = i2 := by simpa using hcm
        rcases e' with q | q | q | q | q <;> rw [q]
        · exact zl
        · exact Heap.lt_size gI
        · exact Heap.lt_size gO
        · obtain ⟨_, e1, _⟩ := h1; exact Heap.lt_size e1
        · obtain ⟨_, e2, _⟩ := h2; exact Heap.lt_size e2
      rw [upd_ne (Nat.ne_of_lt hlt)]
      exact (hf c hcm).1
  done := by
    intro X hP hw hK hc i pins s σ H E I hf st hg
    subst hP hw hK
    obtain ⟨gz, gI, ⟨x0, y0, gO⟩, h1, h2⟩ := st
    obtain ⟨hn, xs, qx, hl⟩ := hg
    obtain ⟨v1, r1, p1, _⟩ := I.tuple qx
    have e1 := r1.length
    refine tzip_next_end (I.ok.hd hc) D gz gI gO h1 p1 (by simp; trivial) fun h' kp => ⟨rfl, I.turnedL (t' := s.toks) (ch := [z, TI, TO, i1, i2]) (fun c o hb q => ?_) hf⟩
    exact kp c o (fun q' => hb (by simp [q'])) (fun q' => hb (by simp [q'])) (fun q' => hb (by simp [q'])) (fun q' => hb (by simp [q'])) q
  self := fun A i s Q E st h => wpAny_pyIter_zip st.1 h
def iZipT (K : PySem.W.Frag) (ta : TA) : TI := fun σ H R => ta σ H fun vs H1 => ∃ a b xs ys, vs = [.ref a, .ref b] ∧ SqT K H1 a xs ∧ SqT K H1 b ys ∧ R (Ity K a b xs.length) H1
theorem pi_tzip {X : Cx} {e e2 : Expr} {ta : TA} {p pos tpos : Pos} {elts : List Expr} {kk : Nat} (hg : Gl X "zip") (hm : X.mg "zip" = none) (ha : PA X [e, e2] ta)
    (hs : starEach [e, e2] X.env = (false, eval e X.env) :: starEach [e2] X.env := by rfl) (hpl : (backTo pos (starEach [e2] X.env)).any (·.1) = false := by rfl) : PI X (.Tuple elts kk tpos) (.Call (.Name "zip" p) [e, e2] [] pos) (iZipT X.K ta) := by
  intro pins s σ H R I h
  refine Call_ (ld_blt I hg hm boot_zip5 (PyProof.Rows.callWith_type1 (thn (ha pos pins s σ H _ I h) fun us s1 ⟨vs, H1, I1, r1, q1⟩ => ?_) hs hpl))
  obtain ⟨a, b, xs, ys, ex, qx, qy, q⟩ := q1
  subst ex
  obtain ⟨u, u2, rfl, ru, ru2⟩ := vals2 r1
  cases ru
  cases ru2
  obtain ⟨v1, _, p1, _⟩ := I1.tuple qx
  obtain ⟨v2, _, p2, _⟩ := I1.tuple qy
  refine tzip_call p1 p2 fun h' gz gI gO h1 h2 kp => wpAny_pyIter_zip gz ?_
  have I2 : Inv X pins σ H1 { s1 with heap := h' } := I1.kept (t' := s1.toks) kp
  refine ⟨s1.heap.objs.size + 4, [s1.heap.objs.size + 4, s1.heap.objs.size + 2, s1.heap.objs.size + 3, s1.heap.objs.size, s1.heap.objs.size + 1], _, _, H1, rfl, I2, turn_tzip (PySem.W.ktu_apart s1.heap.objs.size a b p1.lt p2.lt), ⟨gz, gI, ⟨_, _, gO⟩, h1, h2⟩, fun c hcm => ?_, q⟩
  have hle : s1.heap.objs.size ≤ c := by
    have e' : c = s1.heap.objs.size + 4 ∨ c = s1.heap.objs.size + 2 ∨ c = s1.heap.objs.size + 3 ∨ c = s1.heap.objs.size ∨ c = s1.heap.objs.size + 1 := by simpa using hcm
    rcases e' with z | z | z | z | z <;> rw [z]
    · exact Nat.le_add_right _ _
    · exact Nat.le_add_right _ _
    · exact Nat.le_add_right _ _
    · exact Nat.le_refl _
    · exact Nat.le_add_right _ _
  exact I1.fpOk hle (I1.hok.fresh hle)
end Pr
end
section
local macro_rules | `(tactic| trivial) => `(tactic| first | lia -abstractProof | omega)
set_option Elab.async false
set_option linter.all false
set_option maxRecDepth 100000
set_option maxHeartbeats 2000000
namespace Pr
open PySem PySem.Spec PyProof.Rows L2
structure TxtW (mg : Str → Option Value) : Prop where
  zip : mg "zip" = none
  list : mg "list" = none
  tuple : mg "tuple" = none
  rev : mg "reversed" = none
theorem at3 {α : Type} {xs : List α} {v : α} (h : xs[3]? = some v) : atI xs 3 = some v := atI_nat (j := 3) h
def Q4At (K : PySem.W.Frag) (H : Hp) (v : L2.V) (a b c d : Int) : Prop := ∃ t, v = L2.V.ref t ∧ SqT K H t [.int a, .int b, .int c, .int d]
abbrev P4At (K : PySem.W.Frag) (H : Hp) (v : L2.V) (p : Geo.P4) : Prop := Q4At K H v p.x p.y p.z p.w
abbrev PlAt (K : PySem.W.Frag) (H : Hp) (v : L2.V) (l : Geo.Pl4) : Prop := Q4At K H v l.a l.b l.c l.d
theorem Q4At.mono {K : PySem.W.Frag} {H H' : Hp} {v : L2.V} {a b c d : Int} (s : Same H H') (h : Q4At K H v a b c d) : Q4At K H' v a b c d := by
  obtain ⟨t, e, q⟩ := h; exact ⟨t, e, Same.tup s q⟩
theorem Q4At.set {K : PySem.W.Frag} {H : Hp} {D : Addr} {acc acc' : List L2.V} {v : L2.V} {a b c d : Int} (hD : H D = some (.lst acc)) (h : Q4At K H v a b c d) : Q4At K (L2.upd H D (.lst acc')) v a b c d := by
  obtain ⟨t, e, q⟩ := h; exact ⟨t, e, SqT.set hD q⟩
structure B4 (k : Nat) (p : Geo.P4) : Prop where
  x : ib p.x ≤ k
  y : ib p.y ≤ k
  z : ib p.z ≤ k
  w : ib p.w ≤ k
theorem B4.mono {k m : Nat} {p : Geo.P4} (h : B4 k p) (e : k ≤ m) : B4 m p := ⟨Nat.le_trans h.x e, Nat.le_trans h.y e, Nat.le_trans h.z e, Nat.le_trans h.w e⟩
structure POk (l : Geo.Pl4) : Prop where
  a : ib l.a ≤ 14
  b : ib l.b ≤ 14
  c : ib l.c ≤ 14
  d : ib l.d ≤ 14
  n : Geo.nsq l = 1 ∨ Geo.nsq l = 2
theorem le6 {z : Int} {m : Nat} (h : ib z ≤ m) (e : m ≤ 1000000) : ib z ≤ 1000000 := Nat.le_trans h e
theorem dep_bits {l : Geo.Pl4} {p : Geo.P4} {k : Nat} (hl : POk l) (hp : B4 k p) : ib (Geo.dep l p) ≤ k + 17 := by
  have h1 := intBits_mul_le hl.a hp.x
  have h2 := intBits_mul_le hl.b hp.y
  have h3 := intBits_mul_le hl.c hp.z
  have h4 := intBits_mul_le hl.d hp.w
  have h := intBits_add_le (intBits_add_le (intBits_add_le h1 h2) h3) h4
  refine Nat.le_trans h ?_
  trivial
theorem crs_bits {l : Geo.Pl4} {p q : Geo.P4} {k m : Nat} (hl : POk l) (hp : B4 k p) (hq : B4 m q) : B4 (k + m + 18) (Geo.crs l p q) := by
  have d1 := dep_bits hl hq
  have d2 : ib (-Geo.dep l p) ≤ k + 17 := intBits_neg_le (dep_bits hl hp)
  have key : ∀ {a b : Int}, ib a ≤ k → ib b ≤ m → ib (Geo.dep l q * a + -Geo.dep l p * b) ≤ k + m + 18 := fun ha hb =>
    Nat.le_trans (intBits_add_le (intBits_mul_le d1 ha) (intBits_mul_le d2 hb)) (by trivial)
  exact ⟨key hp.x hq.x, key hp.y hq.y, key hp.z hq.z, key hp.w hq.w⟩
theorem two_bits : ib 2 ≤ 2 := by decide
theorem mir_bits {l : Geo.Pl4} {p : Geo.P4} {k : Nat} (hl : POk l) (hp : B4 k p) : B4 (k + 40) (Geo.mir l p) := by
  have d1 : ib (2 * Geo.dep l p) ≤ 2 + (k + 17) := intBits_mul_le two_bits (dep_bits hl hp)
  have d2 : ib (2 * Geo.dep l p / Geo.nsq l) ≤ k + 20 := by
    rcases hl.n with h | h <;> rw [h]
    · rw [Int.ediv_one]; exact Nat.le_trans d1 (by trivial)
    · have : 2 * Geo.dep l p / 2 = Geo.dep l p := by trivial
      rw [this]; exact Nat.le_trans (dep_bits hl hp) (by trivial)
  have key : ∀ {a b : Int}, ib a ≤ k → ib b ≤ 14 → ib (a - 2 * Geo.dep l p / Geo.nsq l * b) ≤ k + 40 := fun ha hb => Nat.le_trans (intBits_sub_le ha (intBits_mul_le d2 hb)) (by trivial)
  exact ⟨key hp.x hl.a, key hp.y hl.b, key hp.z hl.c, Nat.le_trans hp.w (by trivial)⟩
section
variable {P : Program} {w : World} {K : PySem.W.Frag} {mg : Str → Option Value} {base : Heap} {f : Addr} {fd : FuncData}
def spWP (K : PySem.W.Frag) : Sp := fun vs H Q _ => ∃ v p z, vs = [v] ∧ PtAt K H v p ∧ CoAt K H v 2 z ∧ ∀ t, H t = none → Q (.ref t) (L2.upd H t (.tup [.int p.1, .int p.2, .int z, .int 1]))
theorem scWP : FnScope ["p"] ["p"] (defScope st_whole_point) := ⟨rfl, rfl, rfl, by decide +kernel, rfl, by decide +kernel, by decide +kernel⟩
def spSg : Sp := fun vs H Q _ => ∃ z, vs = [.int z] ∧ Q (.int (Geo.sgn z)) H
theorem scSg : FnScope ["number"] ["number"] (defScope st_sign) := ⟨rfl, rfl, rfl, by decide +kernel, rfl, by decide +kernel, by decide +kernel⟩
def spPo (K : PySem.W.Frag) : Sp := fun vs H Q _ => ∃ v a b, vs = [v] ∧ LineAt K H v a b ∧ ∀ t, H t = none → Q (.ref t) (L2.upd H t (.tup [.int (Geo.planeL a b).a, .int (Geo.planeL a b).b, .int (Geo.planeL a b).c, .int (Geo.planeL a b).d]))
theorem scPo : FnScope ["line", "a", "ux", "uy"] ["line"] (defScope st_plane_of_line) := ⟨rfl, rfl, rfl, by decide +kernel, rfl, by decide +kernel, by decide +kernel⟩
theorem sgn_small (z : Int) : -(2 ^ 64) < Geo.sgn z ∧ Geo.sgn z < 2 ^ 64 := by
  rcases Geo.sgn_cases z with h | h | h <;> rw [h.2] <;> decide
def spDp (K : PySem.W.Frag) : Sp := fun vs H Q _ => ∃ v1 v2 l p, vs = [v1, v2] ∧ PlAt K H v1 l ∧ P4At K H v2 p ∧ POk l ∧ B4 1000000 p ∧ Q (.int (Geo.dep l p)) H
theorem scDp : FnScope ["plane", "p"] ["plane", "p"] (defScope st_depth) := ⟨rfl, rfl, rfl, by decide +kernel, rfl, by decide +kernel, by decide +kernel⟩
def spMi (K : PySem.W.Frag) : Sp := fun vs H Q _ => ∃ v1 v2 l p, vs = [v1, v2] ∧ PlAt K H v1 l ∧ P4At K H v2 p ∧ POk l ∧ B4 1000 p ∧
  ∀ t, H t = none → Q (.ref t) (L2.upd H t (.tup [.int (Geo.mir l p).x, .int (Geo.mir l p).y, .int (Geo.mir l p).z, .int (Geo.mir l p).w]))
theorem scMi : FnScope ["plane", "p", "across"] ["plane", "p"] (defScope st_mirrored) := ⟨rfl, rfl, rfl, by decide +kernel, rfl, by decide +kernel, by decide +kernel⟩
theorem pow_ok {z : Int} (h : ib z ≤ 14) : CPowB z 2 := by
  refine ⟨by decide, ?_⟩
  have : (ib z : Int) ≤ 14 := by exact_mod_cast h
  trivial
end
end Pr
end
section
local macro_rules | `(tactic| trivial) => `(tactic| first | lia -abstractProof | omega)
set_option Elab.async false
set_option linter.all false
set_option maxRecDepth 100000
set_option maxHeartbeats 2000000
namespace Pr
open PySem PySem.Spec PyProof.Rows L2
theorem lc_tz {K : PySem.W.Frag} {a b : Addr} {xs ys : List L2.V} {n : Nat} {g : TG} {tt : TT} {te : TE} {vs : List Nat} {σ : L2.St} {H1 : Hp} {D : Addr} {Qd : Hp → Prop} (Pv : Nat → Hp → Prop) (h0 : Pv 0 (upd H1 D (.lst [])))
    (hx : xs.length = n) (hy : ys.length = n) (hl : ∀ i H, i ≤ n → Pv i H → SqT K H a xs ∧ SqT K H b ys)
    (hs : ∀ i x y H T, xs[i]? = some x → ys[i]? = some y → Pv i H → H T = none → g (.ref T) (wipe σ vs) (upd H T (.tup [x, y])) fun σ2 H2 => wipe σ2 vs = wipe σ vs ∧ tt σ2 H2 fun b H3 =>
      if b = true then te σ2 H3 fun y H4 => ∃ acc, H4 D = some (.lst acc) ∧ acc.length < sizeLine ∧ Pv (i + 1) (upd H4 D (.lst (acc ++ [y]))) else Pv (i + 1) H3) (hd : ∀ H, Pv n H → Qd H) :
    ∃ W : Nat → Nat → Hp → Prop, (∃ m, W 0 m (upd H1 D (.lst []))) ∧ ∀ i m H, W i m H →
      ((Ity K a b n).stop i H ∧ Qd H) ∨ ((Ity K a b n).go i H ∧ ∃ Nx : Hp → Prop, (∀ H', Nx H' → ∃ m', m' < m ∧ W (i + 1) m' H') ∧ ∀ x H', (Ity K a b n).yld i H x H' → g x (wipe σ vs) H' fun σ2 H2 => wipe σ2 vs = wipe σ vs ∧ tt σ2 H2 fun b H3 =>
        if b = true then te σ2 H3 fun y H4 => ∃ acc, H4 D = some (.lst acc) ∧ acc.length < sizeLine ∧ Nx (upd H4 D (.lst (acc ++ [y]))) else Nx H3) := by
  refine ⟨fun i m H => m = n - i ∧ i ≤ n ∧ Pv i H, ⟨n, by simp, Nat.zero_le _, h0⟩, ?_⟩
  rintro i m H ⟨rfl, hi, p⟩
  have q := hl i H hi p
  by_cases hlt : i < n
  · have e1 : xs[i]? = some (xs[i]'(by trivial)) := List.getElem?_eq_getElem (by trivial)
    have e2 : ys[i]? = some (ys[i]'(by trivial)) := List.getElem?_eq_getElem (by trivial)
    refine .inr ⟨⟨xs, ys, _, _, q.1, q.2, e1, e2⟩, Pv (i + 1), fun H' p' => ⟨n - (i + 1), by trivial, rfl, hlt, p'⟩, fun x H' y => ?_⟩
    obtain ⟨T, u, v, rfl, hT, rfl, y1, y2⟩ := y
    exact hs i u v H T (y1 xs q.1) (y2 ys q.2) p hT
  · have e : i = n := by trivial
    subst e
    exact .inl ⟨⟨Nat.le_refl _, xs, q.1, hx⟩, hd H p⟩
section
variable {P : Program} {w : World} {K : PySem.W.Frag} {mg : Str → Option Value} {base : Heap} {f : Addr} {fd : FuncData}
def spCs (K : PySem.W.Frag) : Sp := fun vs H Q _ => ∃ v1 v2 v3 l p q, vs = [v1, v2, v3] ∧ PlAt K H v1 l ∧ P4At K H v2 p ∧ P4At K H v3 q ∧ POk l ∧ B4 400000 p ∧ B4 400000 q ∧
  ∀ H' x, Same H H' → P4At K H' x (Geo.crs l p q) → Q x H'
theorem scCs : FnScope ["plane", "p", "q", "behind", "ahead", "f", "g"] ["plane", "p", "q"] (defScope st_crossing) := ⟨rfl, rfl, rfl, by decide +kernel, rfl, by decide +kernel, by decide +kernel⟩
theorem blkCs : blkC ["plane", "p", "q", "behind", "ahead", "f", "g"] (defScope st_crossing) { kind := .function, names := [(Str.ofString ".0", .local), (Str.ofString "f", .local), (Str.ofString "g", .local), (Str.ofString "ahead", .free), (Str.ofString "behind", .free)], isGenerator := false, isCoroutine := false } [("f", 5), ("g", 6)] = true := by decide +kernel
def crsN (a b : Int) (p q : Geo.P4) : Nat → Int
  | 0 => a * p.x + b * q.x
  | 1 => a * p.y + b * q.y
  | 2 => a * p.z + b * q.z
  | _ => a * p.w + b * q.w
theorem p4_get {p : Geo.P4} {i : Nat} {x : L2.V} (h : [L2.V.int p.x, L2.V.int p.y, L2.V.int p.z, L2.V.int p.w][i]? = some x) : (i = 0 ∧ x = .int p.x) ∨ (i = 1 ∧ x = .int p.y) ∨ (i = 2 ∧ x = .int p.z) ∨ (i = 3 ∧ x = .int p.w) := by
  match i, h with
  | 0, h => cases h; exact .inl ⟨rfl, rfl⟩
  | 1, h => cases h; exact .inr (.inl ⟨rfl, rfl⟩)
  | 2, h => cases h; exact .inr (.inr (.inl ⟨rfl, rfl⟩))
  | 3, h => cases h; exact .inr (.inr (.inr ⟨rfl, rfl⟩))
  | i + 4, h => simp at h
theorem p4_pair {p q : Geo.P4} {i k : Nat} {x y : L2.V} (hp : B4 k p) (hq : B4 k q) (h1 : [L2.V.int p.x, L2.V.int p.y, L2.V.int p.z, L2.V.int p.w][i]? = some x) (h2 : [L2.V.int q.x, L2.V.int q.y, L2.V.int q.z, L2.V.int q.w][i]? = some y) :
    ∃ a b : Int, x = .int a ∧ y = .int b ∧ ib a ≤ k ∧ ib b ≤ k ∧ ∀ c d, crsN c d p q i = c * a + d * b := by
  rcases p4_get h1 with ⟨rfl, rfl⟩ | ⟨rfl, rfl⟩ | ⟨rfl, rfl⟩ | ⟨rfl, rfl⟩ <;> cases h2
  · exact ⟨_, _, rfl, rfl, hp.x, hq.x, fun _ _ => rfl⟩
  · exact ⟨_, _, rfl, rfl, hp.y, hq.y, fun _ _ => rfl⟩
  · exact ⟨_, _, rfl, rfl, hp.z, hq.z, fun _ _ => rfl⟩
  · exact ⟨_, _, rfl, rfl, hp.w, hq.w, fun _ _ => rfl⟩
def WallAt (K : PySem.W.Frag) (H : Hp) (x : L2.V) (n : Nat) (u : Nat → Geo.V) (h : Int) (j : Nat) : Prop :=
  ∃ t vp vl, x = L2.V.ref t ∧ SqT K H t [vp, vl] ∧ PlAt K H vp (Geo.planeM n u h j) ∧ (j < n → LineAt K H vl (u j) (u (j + 1))) ∧ (n ≤ j → vl = .non)
def WallsAt (K : PySem.W.Frag) (H : Hp) (v : L2.V) (n : Nat) (u : Nat → Geo.V) (h : Int) : Prop :=
  ∃ l vs, v = L2.V.ref l ∧ SqL K H l vs ∧ vs.length = n + 2 ∧ ∀ i x, vs[i]? = some x → WallAt K H x n u h i
theorem WallAt.mono {H H' : Hp} {x : L2.V} {n : Nat} {u : Nat → Geo.V} {h : Int} {j : Nat} (s : Same H H') (q : WallAt K H x n u h j) : WallAt K H' x n u h j := by
  obtain ⟨t, vp, vl, e, q1, q2, q3, q4⟩ := q
  exact ⟨t, vp, vl, e, Same.tup s q1, q2.mono s, fun z => (q3 z).mono s, q4⟩
theorem WallAt.set {H : Hp} {D : Addr} {acc acc' : List L2.V} {x : L2.V} {n : Nat} {u : Nat → Geo.V} {h : Int} {j : Nat} (hD : H D = some (.lst acc)) (q : WallAt K H x n u h j) : WallAt K (L2.upd H D (.lst acc')) x n u h j := by
  obtain ⟨t, vp, vl, e, q1, q2, q3, q4⟩ := q
  exact ⟨t, vp, vl, e, SqT.set hD q1, q2.set hD, fun z => (q3 z).set hD, q4⟩
theorem WallsAt.mono {H H' : Hp} {v : L2.V} {n : Nat} {u : Nat → Geo.V} {h : Int} (s : Same H H') (q : WallsAt K H v n u h) : WallsAt K H' v n u h := by
  obtain ⟨l, vs, e, q1, q2, q3⟩ := q
  exact ⟨l, vs, e, s.seq q1, q2, fun i x hx => (q3 i x hx).mono s⟩
structure WOk (n : Nat) (u : Nat → Geo.V) (h : Int) : Prop where
  pl : ∀ j, j < n + 2 → POk (Geo.planeM n u h j)
  small : Small n u
  hb : ib h ≤ 13
  cb : ∀ i, ib (u i).1 ≤ 14 ∧ ib (u i).2 ≤ 14
def spWa (K : PySem.W.Frag) : Sp := fun vs H Q _ => ∃ v ns n, vs = [v] ∧ RoomAt K H v ns ∧ ns.length = 3 + 3 * n ∧ 1 ≤ n ∧ n ≤ 64 ∧ ∀ H' x, Same H H' → WallsAt K H' x n (Geo.cu ns) (ns.getD 0 0) → Q x H'
theorem scWa : FnScope ["room", "sides", "line"] ["room"] (defScope st_walls_of) := ⟨rfl, rfl, rfl, by decide +kernel, rfl, by decide +kernel, by decide +kernel⟩
theorem blkWa : blkC ["room", "sides", "line"] (defScope st_walls_of) { kind := .function, names := [(Str.ofString ".0", .local), (Str.ofString "line", .local), (Str.ofString "plane_of_line", .globalImplicit)], isGenerator := false, isCoroutine := false } [("line", 2)] = true := by decide +kernel
end
end Pr
end
section
local macro_rules | `(tactic| trivial) => `(tactic| first | lia -abstractProof | omega)
set_option Elab.async false
set_option linter.all false
set_option maxRecDepth 100000
set_option maxHeartbeats 2000000
namespace Pr
open PySem PySem.Spec PyProof.Rows L2
section
variable {P : Program} {w : World} {K : PySem.W.Frag} {mg : Str → Option Value} {base : Heap} {f : Addr} {fd : FuncData}
theorem atm1 {xs : List L2.V} {v : L2.V} {n : Nat} (hl : xs.length = n + 1) (h : xs[n]? = some v) : atI xs (-1) = some v := by
  unfold atI ixN
  rw [hl, if_neg (by trivial), if_pos (by trivial)]
  have : (-1 + ((n + 1 : Nat) : Int)).toNat = n := by trivial
  rw [this]; exact h
theorem atm2 {xs : List L2.V} {v : L2.V} {n : Nat} (hl : xs.length = n + 2) (h : xs[n]? = some v) : atI xs (-2) = some v := by
  unfold atI ixN
  rw [hl, if_neg (by trivial), if_pos (by trivial)]
  have : (-2 + ((n + 2 : Nat) : Int)).toNat = n := by trivial
  rw [this]; exact h
theorem get_at {xs : List L2.V} {i : Nat} (h : i < xs.length) : ∃ x, xs[i]? = some x := ⟨_, List.getElem?_eq_getElem h⟩
def spBt (K : PySem.W.Frag) : Sp := fun vs H Q _ => ∃ v1 v2 a b p, vs = [v1, v2] ∧ LineAt K H v1 a b ∧ P4At K H v2 p ∧ Bt a ∧ Bt b ∧ B4 300000 p ∧ Q (.bl (Geo.btwM a b p)) H
theorem scBt : FnScope ["line", "p", "ux", "uy", "along"] ["line", "p"] (defScope st_is_between_corners) := ⟨rfl, rfl, rfl, by decide +kernel, rfl, by decide +kernel, by decide +kernel⟩
def spMt (K : PySem.W.Frag) : Sp := fun vs H Q _ => ∃ v1 v2 v3 n u h j p, vs = [v1, v2, v3] ∧ WallAt K H v1 n u h j ∧ P4At K H v2 p ∧ WallsAt K H v3 n u h ∧ WOk n u h ∧ B4 300000 p ∧ Q (.bl (Geo.mayM n u h j p)) H
theorem scMt : FnScope ["wall", "p", "walls", "line"] ["wall", "p", "walls"] (defScope st_may_turn_at) := ⟨rfl, rfl, rfl, by decide +kernel, rfl, by decide +kernel, by decide +kernel⟩
def sqL (p e : Geo.P4) : Int := (p.x - e.x) ^ 2 + (p.y - e.y) ^ 2 + (p.z - e.z) ^ 2
def spSq (K : PySem.W.Frag) : Sp := fun vs H Q _ => ∃ v1 v2 p e, vs = [v1, v2] ∧ P4At K H v1 p ∧ P4At K H v2 e ∧ B4 1000 p ∧ B4 1000 e ∧ Q (.int (sqL p e)) H
theorem scSq : FnScope ["image", "e"] ["image", "e"] (defScope st_square_length) := ⟨rfl, rfl, rfl, by decide +kernel, rfl, by decide +kernel, by decide +kernel⟩
theorem pow_ok3 {z : Int} (h : ib z ≤ 1001) : CPowB z 2 := by
  refine ⟨by decide, ?_⟩
  have : (ib z : Int) ≤ 1001 := by exact_mod_cast h
  trivial
end
end Pr
end
section
local macro_rules | `(tactic| trivial) => `(tactic| first | lia -abstractProof | omega)
set_option Elab.async false
set_option linter.all false
set_option maxRecDepth 100000
set_option maxHeartbeats 2000000
namespace Pr
open PySem PySem.Spec PyProof.Rows L2
def rowV (row : List Nat) : List L2.V := row.map fun (j : Nat) => L2.V.int (j : Int)
def RowAt (K : PySem.W.Frag) (H : Hp) (v : L2.V) (row : List Nat) : Prop := ∃ t, v = L2.V.ref t ∧ SqT K H t (rowV row)
def Al4 (K : PySem.W.Frag) (H : Hp) (xs : List L2.V) (ps : List Geo.P4) : Prop := xs.length = ps.length ∧ ∀ (i : Nat) (x : L2.V) (p : Geo.P4), xs[i]? = some x → ps[i]? = some p → P4At K H x p
def ImAt (K : PySem.W.Frag) (H : Hp) (v : L2.V) (ps : List Geo.P4) : Prop := ∃ t xs, v = L2.V.ref t ∧ SqT K H t xs ∧ Al4 K H xs ps
theorem RowAt.mono {K : PySem.W.Frag} {H H' : Hp} {v : L2.V} {row : List Nat} (s : Same H H') (h : RowAt K H v row) : RowAt K H' v row := by
  obtain ⟨t, e, q⟩ := h; exact ⟨t, e, Same.tup s q⟩
theorem RowAt.set {K : PySem.W.Frag} {H : Hp} {D : Addr} {acc acc' : List L2.V} {v : L2.V} {row : List Nat} (hD : H D = some (.lst acc)) (h : RowAt K H v row) : RowAt K (L2.upd H D (.lst acc')) v row := by
  obtain ⟨t, e, q⟩ := h; exact ⟨t, e, SqT.set hD q⟩
theorem Al4.mono {K : PySem.W.Frag} {H H' : Hp} {xs : List L2.V} {ps : List Geo.P4} (s : Same H H') (h : Al4 K H xs ps) : Al4 K H' xs ps := ⟨h.1, fun i x p h1 h2 => (h.2 i x p h1 h2).mono s⟩
theorem Al4.set {K : PySem.W.Frag} {H : Hp} {D : Addr} {acc acc' : List L2.V} {xs : List L2.V} {ps : List Geo.P4} (hD : H D = some (.lst acc)) (h : Al4 K H xs ps) : Al4 K (L2.upd H D (.lst acc')) xs ps := ⟨h.1, fun i x p h1 h2 => (h.2 i x p h1 h2).set hD⟩
theorem Al4.snoc {K : PySem.W.Frag} {H : Hp} {xs : List L2.V} {ps : List Geo.P4} {x : L2.V} {p : Geo.P4} (h : Al4 K H xs ps) (hx : P4At K H x p) : Al4 K H (xs ++ [x]) (ps ++ [p]) := by
  refine ⟨by rw [List.length_append, List.length_append, h.1]; rfl, fun i y q h1 h2 => ?_⟩
  rcases snoc_get h1 with ⟨hi, h1⟩ | ⟨hi, rfl⟩
  · rcases snoc_get h2 with ⟨_, h2⟩ | ⟨hi2, _⟩
    · exact h.2 i y q h1 h2
    · rw [← h.1] at hi2; trivial
  · rcases snoc_get h2 with ⟨hi2, _⟩ | ⟨_, rfl⟩
    · rw [← h.1] at hi2; trivial
    · exact hx
theorem Al4.get {K : PySem.W.Frag} {H : Hp} {xs : List L2.V} {ps : List Geo.P4} {i : Nat} {p : Geo.P4} (h : Al4 K H xs ps) (hp : ps[i]? = some p) : ∃ x, xs[i]? = some x ∧ P4At K H x p := by
  have hi : i < xs.length := by rw [h.1]; exact (List.getElem?_eq_some_iff.1 hp).1
  exact ⟨_, List.getElem?_eq_getElem hi, h.2 i _ p (List.getElem?_eq_getElem hi) hp⟩
theorem Al4.rev {K : PySem.W.Frag} {H : Hp} {xs : List L2.V} {ps : List Geo.P4} (h : Al4 K H xs ps) : Al4 K H xs.reverse ps.reverse := by
  refine ⟨by rw [List.length_reverse, List.length_reverse, h.1], fun i x p h1 h2 => ?_⟩
  have hi : i < xs.length := by have := (List.getElem?_eq_some_iff.1 h1).1; rwa [List.length_reverse] at this
  rw [List.getElem?_reverse hi] at h1
  rw [List.getElem?_reverse (by rw [← h.1]; exact hi), ← h.1] at h2
  exact h.2 _ x p h1 h2
theorem ImAt.mono {K : PySem.W.Frag} {H H' : Hp} {v : L2.V} {ps : List Geo.P4} (s : Same H H') (h : ImAt K H v ps) : ImAt K H' v ps := by
  obtain ⟨t, xs, e, q, a⟩ := h; exact ⟨t, xs, e, Same.tup s q, a.mono s⟩
theorem ImAt.set {K : PySem.W.Frag} {H : Hp} {D : Addr} {acc acc' : List L2.V} {v : L2.V} {ps : List Geo.P4} (hD : H D = some (.lst acc)) (h : ImAt K H v ps) : ImAt K (L2.upd H D (.lst acc')) v ps := by
  obtain ⟨t, xs, e, q, a⟩ := h; exact ⟨t, xs, e, SqT.set hD q, a.set hD⟩
theorem inV_row (own : List Nat) (j : Nat) : inV (.int (j : Int)) (rowV own) = own.contains j := by
  unfold inV rowV
  rw [List.any_map]
  induction own with
  | nil => rfl
  | cons a l ih =>
    rw [List.any_cons, List.contains_cons, ih]
    congr 1
    show ((a : Int) == (j : Int)) = (j == a)
    by_cases e : j = a
    · subst e; simp
    · have e1 : (j == a) = false := by simpa using e
      rw [e1]
      simp
      trivial
theorem flat_row (own : List Nat) : (rowV own).all flatV = true := by
  unfold rowV; rw [List.all_map]; simp [flatV, Function.comp]
section
variable {P : Program} {w : World} {K : PySem.W.Frag} {mg : Str → Option Value} {base : Heap} {f : Addr} {fd : FuncData}
def spLg (K : PySem.W.Frag) : Sp := fun vs H Q _ => ∃ v1 v2 v3 v4 p q n u h own, vs = [v1, v2, v3, v4] ∧ P4At K H v1 p ∧ P4At K H v2 q ∧ WallsAt K H v3 n u h ∧ WOk n u h ∧ RowAt K H v4 own ∧ B4 40000 p ∧ B4 40000 q ∧
  ∀ H', Same H H' → Q (.bl (Geo.legB n u p q own)) H'
theorem scLg : FnScope ["p", "q", "walls", "own", "start", "end", "scale", "number", "wall", "line"] ["p", "q", "walls", "own"] (defScope st_is_leg_clear) := ⟨rfl, rfl, rfl, by decide +kernel, rfl, by decide +kernel, by decide +kernel⟩
def legAt (n : Nat) (u : Nat → Geo.V) (p q : Geo.P4) (own : List Nat) (j : Nat) : Bool := own.contains j ||
  !decide (Geo.lm (p.x * q.w, p.y * q.w) (q.x * p.w, q.y * p.w) (Geo.scr (p.w * q.w) (u j)) (Geo.scr (p.w * q.w) (u (j + 1))))
theorem legB_eq (n : Nat) (u : Nat → Geo.V) (p q : Geo.P4) (own : List Nat) : Geo.legB n u p q own = (List.range n).all (legAt n u p q own) := rfl
end
end Pr
end
section
local macro_rules | `(tactic| trivial) => `(tactic| first | lia -abstractProof | omega)
set_option Elab.async false
set_option linter.all false
set_option maxRecDepth 100000
set_option maxHeartbeats 2000000
namespace Pr
open PySem PySem.Spec PyProof.Rows L2
theorem rowV_get {row : List Nat} {i j : Nat} (h : row[i]? = some j) : (rowV row)[i]? = some (.int (j : Int)) := by
  unfold rowV; rw [List.getElem?_map, h]; rfl
theorem rowV_len (row : List Nat) : (rowV row).length = row.length := by unfold rowV; rw [List.length_map]
def PbR (K : PySem.W.Frag) (H : Hp) (x : L2.V) (s e : Geo.P4) : Option (List Geo.P4) → Prop
  | none => x = .non
  | some ps => ∃ l xs, x = L2.V.ref l ∧ H l = some (.lst xs) ∧ Al4 K H xs (Geo.ptsM s e ps)
theorem bkM_cons (n : Nat) (u : Nat → Geo.V) (h : Int) (j : Nat) (i : Geo.P4) (m : List (Nat × Geo.P4)) (q : Geo.P4) : Geo.bkM n u h ((j, i) :: m) q = if Geo.dep (Geo.planeM n u h j) q ≤ 0 then none else
    if Geo.mayM n u h j (Geo.crs (Geo.planeM n u h j) i q) = false then none else (Geo.bkM n u h m (Geo.crs (Geo.planeM n u h j) i q)).map fun ps => Geo.crs (Geo.planeM n u h j) i q :: ps := rfl
theorem bk_bits {n : Nat} {u : Nat → Geo.V} {h : Int} : ∀ (L : List (Nat × Geo.P4)) (q : Geo.P4) (m : Nat) (ps : List Geo.P4), (∀ x ∈ L, POk (Geo.planeM n u h x.1) ∧ B4 1000 x.2) → B4 m q → Geo.bkM n u h L q = some ps →
    ∀ p ∈ ps, B4 (m + 1100 * L.length) p
  | [], q, m, ps, _, _, e, p, hp => by cases e; simp at hp
  | (w, i) :: L, q, m, ps, hL, hq, e, p, hp => by
    unfold Geo.bkM at e
    split at e
    · cases e
    split at e
    · cases e
    have h0 := hL (w, i) (by simp)
    have hc := crs_bits h0.1 h0.2 hq
    cases e2 : Geo.bkM n u h L (Geo.crs (Geo.planeM n u h w) i q) with
    | none => rw [e2] at e; cases e
    | some ps' =>
      rw [e2] at e
      cases e
      rcases List.mem_cons.1 hp with rfl | hp
      · exact hc.mono (by rw [List.length_cons]; trivial)
      · have := bk_bits L _ (m + 1100) ps' (fun x hx => hL x (List.mem_cons_of_mem _ hx)) (hc.mono (by trivial)) e2 p hp
        exact this.mono (by rw [List.length_cons]; trivial)
section
variable {P : Program} {w : World} {K : PySem.W.Frag} {mg : Str → Option Value} {base : Heap} {f : Addr} {fd : FuncData}
structure ROk (n : Nat) (u : Nat → Geo.V) (h : Int) (s : Geo.P4) (row : List Nat) : Prop where
  len : row.length ≤ 4
  lt : ∀ j ∈ row, j < n + 2
  im : ∀ p ∈ Geo.imF n u h s row, B4 1000 p
def spPb (K : PySem.W.Frag) : Sp := fun vs H Q _ => ∃ v1 v2 v3 v4 row n u h s e, vs = [v1, v2, v3, v4] ∧ RowAt K H v1 row ∧ ImAt K H v2 (Geo.imF n u h s row) ∧ P4At K H v3 e ∧ WallsAt K H v4 n u h ∧ WOk n u h ∧ ROk n u h s row ∧ B4 1000 e ∧
  ∀ H' x, Same H H' → PbR K H' x s e (Geo.bkM n u h (Geo.LR n u h s row.reverse) e) → Q x H'
theorem scPb : FnScope ["row", "images", "e", "walls", "points", "k", "wall", "turn"] ["row", "images", "e", "walls"] (defScope st_points_by) := ⟨rfl, rfl, rfl, by decide +kernel, rfl, by decide +kernel, by decide +kernel⟩
end
end Pr
end
section
local macro_rules | `(tactic| trivial) => `(tactic| first | lia -abstractProof | omega)
set_option Elab.async false
set_option linter.all false
set_option maxRecDepth 100000
set_option maxHeartbeats 2000000
namespace Pr
open PySem PySem.Spec PyProof.Rows L2
theorem own_cut (row : List Nat) {k : Nat} (hk : k ≤ row.length) : cutV (rowV row) (some ((k - 1 : Nat) : Int)) (some ((k + 1 : Nat) : Int)) = rowV ((row.take (k + 1)).drop (k - 1)) := by
  unfold cutV
  rw [HT.sIx_nat, HT.sIx_nat, rowV_len]
  unfold rowV
  rw [← List.map_drop, ← List.map_take]
  congr 1
  rw [Nat.min_eq_left (show k - 1 ≤ row.length by trivial), List.drop_take]
  by_cases h : k + 1 ≤ row.length
  · rw [Nat.min_eq_left h]
  · have e : k = row.length := by trivial
    rw [Nat.min_eq_right (show row.length ≤ k + 1 by trivial)]
    rw [List.take_of_length_le (by rw [List.length_drop]; trivial), List.take_of_length_le (by rw [List.length_drop]; trivial)]
theorem own_whole (row : List Nat) {k : Nat} (hk : k ≤ row.length) (h : HT.sIx (rowV row).length 0 (some ((k - 1 : Nat) : Int)) = 0 ∧ HT.sIx (rowV row).length (rowV row).length (some ((k + 1 : Nat) : Int)) = (rowV row).length) :
    rowV row = rowV ((row.take (k + 1)).drop (k - 1)) := by
  rw [← own_cut row hk]
  unfold cutV
  rw [h.1, h.2, Nat.sub_zero, List.drop_zero, List.take_length]
section
variable {P : Program} {w : World} {K : PySem.W.Frag} {mg : Str → Option Value} {base : Heap} {f : Addr} {fd : FuncData}
def spIp (K : PySem.W.Frag) : Sp := fun vs H Q _ => ∃ v1 v2 v3 v4 row n u h s e, vs = [v1, v2, v3, v4] ∧ RowAt K H v1 row ∧ ImAt K H v2 (Geo.imF n u h s row) ∧ P4At K H v3 e ∧ WallsAt K H v4 n u h ∧ WOk n u h ∧ ROk n u h s row ∧ B4 1000 e ∧
  ∀ H', Same H H' → Q (.bl (Geo.pathM n u h s row e)) H'
theorem scIp : FnScope ["row", "images", "e", "walls", "points", "k"] ["row", "images", "e", "walls"] (defScope st_is_path) := ⟨rfl, rfl, rfl, by decide +kernel, rfl, by decide +kernel, by decide +kernel⟩
end
end Pr
end
section
local macro_rules | `(tactic| trivial) => `(tactic| first | lia -abstractProof | omega)
set_option Elab.async false
set_option linter.all false
set_option maxRecDepth 100000
set_option maxHeartbeats 2000000
namespace Pr
open PySem PySem.Spec PyProof.Rows L2
section
variable {K : PySem.W.Frag} {n : Nat} {u : Nat → Geo.V} {h : Int} {s : Geo.P4}
def RwAt (K : PySem.W.Frag) (H : Hp) (x : L2.V) (n : Nat) (u : Nat → Geo.V) (h : Int) (s : Geo.P4) (row : List Nat) : Prop := ∃ t vr vi, x = L2.V.ref t ∧ SqT K H t [vr, vi] ∧ RowAt K H vr row ∧ ImAt K H vi (Geo.imF n u h s row)
def RwsAt (K : PySem.W.Frag) (H : Hp) (xs : List L2.V) (n : Nat) (u : Nat → Geo.V) (h : Int) (s : Geo.P4) (rows : List (List Nat)) : Prop := xs.length = rows.length ∧ ∀ (i : Nat) (x : L2.V) (row : List Nat), xs[i]? = some x → rows[i]? = some row → RwAt K H x n u h s row
theorem RwAt.mono {H H' : Hp} {x : L2.V} {row : List Nat} (e : Same H H') (q : RwAt K H x n u h s row) : RwAt K H' x n u h s row := by
  obtain ⟨t, vr, vi, e1, q1, q2, q3⟩ := q; exact ⟨t, vr, vi, e1, Same.tup e q1, q2.mono e, q3.mono e⟩
theorem RwAt.set {H : Hp} {D : Addr} {acc acc' : List L2.V} {x : L2.V} {row : List Nat} (hD : H D = some (.lst acc)) (q : RwAt K H x n u h s row) : RwAt K (L2.upd H D (.lst acc')) x n u h s row := by
  obtain ⟨t, vr, vi, e1, q1, q2, q3⟩ := q; exact ⟨t, vr, vi, e1, SqT.set hD q1, q2.set hD, q3.set hD⟩
theorem RwsAt.mono {H H' : Hp} {xs : List L2.V} {rows : List (List Nat)} (e : Same H H') (q : RwsAt K H xs n u h s rows) : RwsAt K H' xs n u h s rows := ⟨q.1, fun i x row h1 h2 => (q.2 i x row h1 h2).mono e⟩
theorem RwsAt.set {H : Hp} {D : Addr} {acc acc' : List L2.V} {xs : List L2.V} {rows : List (List Nat)} (hD : H D = some (.lst acc)) (q : RwsAt K H xs n u h s rows) : RwsAt K (L2.upd H D (.lst acc')) xs n u h s rows :=
  ⟨q.1, fun i x row h1 h2 => (q.2 i x row h1 h2).set hD⟩
theorem RwsAt.append {H : Hp} {xs ys : List L2.V} {rows rows' : List (List Nat)} (a : RwsAt K H xs n u h s rows) (b : RwsAt K H ys n u h s rows') : RwsAt K H (xs ++ ys) n u h s (rows ++ rows') := by
  refine ⟨by rw [List.length_append, List.length_append, a.1, b.1], fun i x row h1 h2 => ?_⟩
  by_cases hi : i < xs.length
  · rw [List.getElem?_append_left hi] at h1
    rw [List.getElem?_append_left (by rw [← a.1]; exact hi)] at h2
    exact a.2 i x row h1 h2
  · rw [List.getElem?_append_right (by trivial)] at h1
    rw [List.getElem?_append_right (by rw [← a.1]; trivial), ← a.1] at h2
    exact b.2 _ x row h1 h2
theorem RwsAt.one {H : Hp} {x : L2.V} {row : List Nat} (a : RwAt K H x n u h s row) : RwsAt K H [x] n u h s [row] := by
  refine ⟨rfl, fun i y r h1 h2 => ?_⟩
  match i, h1, h2 with
  | 0, h1, h2 => cases h1; cases h2; exact a
  | i + 1, h1, h2 => simp at h1
theorem RwsAt.get {H : Hp} {xs : List L2.V} {rows : List (List Nat)} (a : RwsAt K H xs n u h s rows) {i : Nat} {x : L2.V} (hx : xs[i]? = some x) : ∃ row, rows[i]? = some row ∧ RwAt K H x n u h s row := by
  have hi : i < rows.length := by rw [← a.1]; exact (List.getElem?_eq_some_iff.1 hx).1
  exact ⟨_, List.getElem?_eq_getElem hi, a.2 i x _ hx (List.getElem?_eq_getElem hi)⟩
def posM (n : Nat) (u : Nat → Geo.V) (h : Int) (s : Geo.P4) (l : List Nat) (j : Nat) : Bool := decide (0 < Geo.dep (Geo.planeM n u h j) (Geo.hdI s (Geo.LR n u h s l.reverse)))
def extTo (n : Nat) (u : Nat → Geo.V) (h : Int) (s : Geo.P4) (b : Nat) (l : List Nat) : List (List Nat) := ((List.range b).filter (posM n u h s l)).map fun j => l ++ [j]
theorem newM_succ (k : Nat) : Geo.newM n u h s (k + 1) = (Geo.newM n u h s k).flatMap (extTo n u h s (n + 2)) := rfl
theorem extTo_succ (b : Nat) (l : List Nat) : extTo n u h s (b + 1) l = extTo n u h s b l ++ (if posM n u h s l b = true then [l ++ [b]] else []) := by
  unfold extTo
  rw [List.range_succ, List.filter_append, List.map_append]
  congr 1
  by_cases hp : posM n u h s l b = true
  · rw [if_pos hp, List.filter_cons, if_pos hp]; rfl
  · rw [if_neg hp, List.filter_cons, if_neg hp]; rfl
theorem extTo_len (b : Nat) (l : List Nat) : (extTo n u h s b l).length ≤ b := by
  unfold extTo
  rw [List.length_map]
  have := List.length_filter_le (posM n u h s l) (List.range b)
  rwa [List.length_range] at this
theorem flat_len {α β : Type} {f : α → List β} {c : Nat} : ∀ (l : List α), (∀ x ∈ l, (f x).length ≤ c) → (l.flatMap f).length ≤ l.length * c
  | [], _ => by simp
  | x :: l, hl => by
    rw [List.flatMap_cons, List.length_append, List.length_cons, Nat.succ_mul]
    have h1 := hl x (by simp)
    have h2 := flat_len l (fun y hy => hl y (List.mem_cons_of_mem _ hy))
    trivial
theorem newM_len : ∀ k, (Geo.newM n u h s k).length ≤ (n + 2) ^ k
  | 0 => by simp [Geo.newM]
  | k + 1 => by
    rw [newM_succ, Nat.pow_succ]
    have h1 := flat_len (f := extTo n u h s (n + 2)) (c := n + 2) (Geo.newM n u h s k) (fun x _ => extTo_len _ _)
    have h2 := Nat.mul_le_mul_right (n + 2) (newM_len k)
    trivial
theorem take_flat {α β : Type} {f : α → List β} {l : List α} {a : Nat} {x : α} (hx : l[a]? = some x) : (l.take (a + 1)).flatMap f = (l.take a).flatMap f ++ f x := by
  rw [List.take_succ, hx, List.flatMap_append]
  simp
theorem rok_new (W : WOk n u h) (bs : B4 200 s) : ∀ k row, row ∈ Geo.newM n u h s k → row.length = k ∧ (∀ j ∈ row, j < n + 2) ∧ ∀ p ∈ Geo.imF n u h s row, B4 (200 + 40 * k) p
  | 0, row, hr => by
    have : row = [] := by simpa [Geo.newM] using hr
    subst this
    refine ⟨rfl, fun j hj => by simp at hj, fun p hp => ?_⟩
    have : p = s := by simpa [Geo.imF, Geo.LR] using hp
    subst this; exact bs
  | k + 1, row, hr => by
    rw [newM_succ, List.mem_flatMap] at hr
    obtain ⟨l, hl, hr⟩ := hr
    unfold extTo at hr
    rw [List.mem_map] at hr
    obtain ⟨j, hj, rfl⟩ := hr
    have hj := List.mem_range.1 (List.mem_filter.1 hj).1
    obtain ⟨h1, h2, h3⟩ := rok_new W bs k l hl
    refine ⟨by rw [List.length_append, h1]; rfl, fun i hi => ?_, fun p hp => ?_⟩
    · rcases List.mem_append.1 hi with hi | hi
      · exact h2 i hi
      · have : i = j := by simpa using hi
        rw [this]; exact hj
    · rw [Geo.imF_snoc] at hp
      rcases List.mem_append.1 hp with hp | hp
      · exact (h3 p hp).mono (by trivial)
      · have e : p = Geo.mir (Geo.planeM n u h j) (Geo.hdI s (Geo.LR n u h s l.reverse)) := by simpa using hp
        rw [e]
        exact (mir_bits (W.pl j hj) (h3 _ (List.mem_of_getElem? (Geo.imF_last n u h s l)))).mono (by trivial)
theorem rok_of (W : WOk n u h) (bs : B4 200 s) {k : Nat} (hk : k ≤ 4) {row : List Nat} (hr : row ∈ Geo.newM n u h s k) : ROk n u h s row := by
  obtain ⟨h1, h2, h3⟩ := rok_new W bs k row hr
  exact ⟨by trivial, h2, fun p hp => (h3 p hp).mono (by trivial)⟩
theorem cat_row {H : Hp} {vr : L2.V} {row : List Nat} {j : Nat} {p : Addr} {Q : VK} (hr : RowAt K H vr row) (hp : SqT K H p [.int (j : Int)]) (hl : row.length ≤ 10) (k : ∀ v H2, Same H H2 → RowAt K H2 v (row ++ [j]) → Q v H2) : rCatA K vr (.ref p) H Q := by
  obtain ⟨t, rfl, st⟩ := hr
  have el := rowV_len row
  refine ⟨t, p, _, _, rfl, rfl, st, hp, by simp, ?_, fun z => ?_, fun z q hq => ?_⟩
  · rw [el]; exact Nat.le_trans (show row.length + 1 ≤ 11 by trivial) (by decide)
  · have : row = [] := by
      cases row with
      | nil => rfl
      | cons a l => simp [rowV] at z
    subst this
    exact k _ _ (Same.refl H) ⟨p, rfl, hp⟩
  · refine k _ _ (Same.upd (Same.refl H) hq) ⟨q, rfl, SqT.of ?_⟩
    rw [upd_same]
    unfold rowV
    rw [List.map_append]; rfl
theorem cat_im {H : Hp} {vi x : L2.V} {ps : List Geo.P4} {q : Geo.P4} {p : Addr} {Q : VK} (hi : ImAt K H vi ps) (hne : ps ≠ []) (hp : SqT K H p [x]) (hx : P4At K H x q) (hl : ps.length ≤ 10) (k : ∀ v H2, Same H H2 → ImAt K H2 v (ps ++ [q]) → Q v H2) : rCatA K vi (.ref p) H Q := by
  obtain ⟨t, xs, rfl, st, a⟩ := hi
  have hxs : xs ≠ [] := by
    rintro rfl
    have := a.1
    cases ps with
    | nil => exact hne rfl
    | cons _ _ => simp at this
  refine ⟨t, p, _, _, rfl, rfl, st, hp, by simp, ?_, fun z => absurd z hxs, fun z r hr => ?_⟩
  · rw [a.1]; exact Nat.le_trans (show ps.length + 1 ≤ 11 by trivial) (by decide)
  · have e := Same.upd (Same.refl H) hr (o := .tup (xs ++ [x]))
    exact k _ _ e ⟨r, _, rfl, SqT.of upd_same, Al4.snoc (a.mono e) (hx.mono e)⟩
end
section
variable {P : Program} {w : World} {K : PySem.W.Frag} {mg : Str → Option Value} {base : Heap} {f : Addr} {fd : FuncData}
def spRw (K : PySem.W.Frag) : Sp := fun vs H Q _ => ∃ v1 v2 n u h s most, vs = [v1, v2, .int (most : Nat)] ∧ P4At K H v1 s ∧ WallsAt K H v2 n u h ∧ WOk n u h ∧ B4 200 s ∧ most ≤ 4 ∧ (n + 2) ^ most ≤ 20000 ∧
  ∀ H' l xs, Same H H' → H l = none → H' l = some (.lst xs) → RwsAt K H' xs n u h s (Geo.rowsM n u h s most) → Q (.ref l) H'
theorem scRw : FnScope ["s", "walls", "most", "newest", "rows", "turn", "longer", "row", "images", "number", "wall"] ["s", "walls", "most"] (defScope st_rows_of_walls) := ⟨rfl, rfl, rfl, by decide +kernel, rfl, by decide +kernel, by decide +kernel⟩
end
end Pr
end
section
local macro_rules | `(tactic| trivial) => `(tactic| first | lia -abstractProof | omega)
set_option Elab.async false
set_option linter.all false
set_option maxRecDepth 100000
set_option maxHeartbeats 2000000
namespace Pr
open PySem PySem.Spec PyProof.Rows L2
def PathAt (K : PySem.W.Frag) (H : Hp) (x : L2.V) (r : List Nat × Int) : Prop := ∃ t vr, x = L2.V.ref t ∧ SqT K H t [vr, .int r.2] ∧ RowAt K H vr r.1
def PsAt (K : PySem.W.Frag) (H : Hp) (xs : List L2.V) (rs : List (List Nat × Int)) : Prop := xs.length = rs.length ∧ ∀ (i : Nat) (x : L2.V) (r : List Nat × Int), xs[i]? = some x → rs[i]? = some r → PathAt K H x r
theorem PathAt.mono {K : PySem.W.Frag} {H H' : Hp} {x : L2.V} {r : List Nat × Int} (e : Same H H') (q : PathAt K H x r) : PathAt K H' x r := by
  obtain ⟨t, vr, e1, q1, q2⟩ := q; exact ⟨t, vr, e1, Same.tup e q1, q2.mono e⟩
theorem PathAt.set {K : PySem.W.Frag} {H : Hp} {D : Addr} {acc acc' : List L2.V} {x : L2.V} {r : List Nat × Int} (hD : H D = some (.lst acc)) (q : PathAt K H x r) : PathAt K (L2.upd H D (.lst acc')) x r := by
  obtain ⟨t, vr, e1, q1, q2⟩ := q; exact ⟨t, vr, e1, SqT.set hD q1, q2.set hD⟩
theorem PsAt.mono {K : PySem.W.Frag} {H H' : Hp} {xs : List L2.V} {rs : List (List Nat × Int)} (e : Same H H') (q : PsAt K H xs rs) : PsAt K H' xs rs := ⟨q.1, fun i x r h1 h2 => (q.2 i x r h1 h2).mono e⟩
theorem PsAt.set {K : PySem.W.Frag} {H : Hp} {D : Addr} {acc acc' : List L2.V} {xs : List L2.V} {rs : List (List Nat × Int)} (hD : H D = some (.lst acc)) (q : PsAt K H xs rs) : PsAt K (L2.upd H D (.lst acc')) xs rs := ⟨q.1, fun i x r h1 h2 => (q.2 i x r h1 h2).set hD⟩
theorem PsAt.snoc {K : PySem.W.Frag} {H : Hp} {xs : List L2.V} {rs : List (List Nat × Int)} {x : L2.V} {r : List Nat × Int} (h : PsAt K H xs rs) (hx : PathAt K H x r) : PsAt K H (xs ++ [x]) (rs ++ [r]) := by
  refine ⟨by rw [List.length_append, List.length_append, h.1]; rfl, fun i y q h1 h2 => ?_⟩
  rcases snoc_get h1 with ⟨hi, h1⟩ | ⟨hi, rfl⟩
  · rcases snoc_get h2 with ⟨_, h2⟩ | ⟨hi2, _⟩
    · exact h.2 i y q h1 h2
    · rw [← h.1] at hi2; trivial
  · rcases snoc_get h2 with ⟨hi2, _⟩ | ⟨_, rfl⟩
    · rw [← h.1] at hi2; trivial
    · exact hx
def pathOf (n : Nat) (u : Nat → Geo.V) (h : Int) (s e : Geo.P4) (row : List Nat) : List Nat × Int := (row, sqL (Geo.hdI s (Geo.LR n u h s row.reverse)) e)
def pathsIn (n : Nat) (u : Nat → Geo.V) (h : Int) (s e : Geo.P4) (rows : List (List Nat)) : List (List Nat × Int) := (rows.filter fun row => Geo.pathM n u h s row e).map (pathOf n u h s e)
theorem pathsIn_succ {n : Nat} {u : Nat → Geo.V} {h : Int} {s e : Geo.P4} {rows : List (List Nat)} {i : Nat} {row : List Nat} (hr : rows[i]? = some row) :
    pathsIn n u h s e (rows.take (i + 1)) = pathsIn n u h s e (rows.take i) ++ (if Geo.pathM n u h s row e = true then [pathOf n u h s e row] else []) := by
  unfold pathsIn
  rw [List.take_succ, hr, List.filter_append, List.map_append]
  congr 1
  by_cases hp : Geo.pathM n u h s row e = true
  · rw [if_pos hp]; simp [hp]
  · rw [if_neg hp]; simp [hp]
theorem pathsIn_len {n : Nat} {u : Nat → Geo.V} {h : Int} {s e : Geo.P4} (rows : List (List Nat)) : (pathsIn n u h s e rows).length ≤ rows.length := by
  unfold pathsIn; rw [List.length_map]; exact List.length_filter_le _ _
section
variable {P : Program} {w : World} {K : PySem.W.Frag} {mg : Str → Option Value} {base : Heap} {f : Addr} {fd : FuncData}
def spPt (K : PySem.W.Frag) : Sp := fun vs H Q _ => ∃ v1 lr v3 xs n u h s rows p z, vs = [v1, .ref lr, v3] ∧ PtAt K H v1 p ∧ CoAt K H v1 2 z ∧ SqL K H lr xs ∧ RwsAt K H xs n u h s rows ∧ WallsAt K H v3 n u h ∧ WOk n u h ∧ (∀ row ∈ rows, ROk n u h s row) ∧ rows.length ≤ 100000 ∧ B4 1000 ⟨p.1, p.2, z, 1⟩ ∧
  ∀ H' l ys, Same H H' → H l = none → H' l = some (.lst ys) → PsAt K H' ys (pathsIn n u h s ⟨p.1, p.2, z, 1⟩ rows) → Q (.ref l) H'
theorem scPt : FnScope ["place", "rows", "walls", "e", "row", "images"] ["place", "rows", "walls"] (defScope st_paths_to) := ⟨rfl, rfl, rfl, by decide +kernel, rfl, by decide +kernel, by decide +kernel⟩
theorem blkPt : blkC ["place", "rows", "walls", "e", "row", "images"] (defScope st_paths_to) { kind := .function, names := [(Str.ofString ".0", .local), (Str.ofString "row", .local), (Str.ofString "images", .local), (Str.ofString "e", .free), (Str.ofString "is_path", .globalImplicit), (Str.ofString "square_length", .globalImplicit), (Str.ofString "walls", .free)], isGenerator := false, isCoroutine := false } [("row", 4), ("images", 5)] = true := by decide +kernel
end
end Pr
end
section
local macro_rules | `(tactic| trivial) => `(tactic| first | lia -abstractProof | omega)
set_option Elab.async false
set_option linter.all false
set_option maxRecDepth 100000
set_option maxHeartbeats 2000000
namespace Pr
open PySem PySem.Spec PyProof.Rows L2
theorem ib14 {z : Int} (h1 : -16000 ≤ z) (h2 : z ≤ 16000) : ib z ≤ 14 := intBits_le_iff.2 (Nat.lt_of_le_of_lt (show z.natAbs ≤ 16000 by trivial) (by decide))
theorem ib13 {z : Int} (h1 : -8000 ≤ z) (h2 : z ≤ 8000) : ib z ≤ 13 := intBits_le_iff.2 (Nat.lt_of_le_of_lt (show z.natAbs ≤ 8000 by trivial) (by decide))
theorem wok_of {ns : List Int} (ef : Geo.roomFault ns = none) : WOk (Geo.cn ns) (Geo.cu ns) (ns.getD 0 0) := by
  obtain ⟨S, hn, h3, h64, hc, hh⟩ := small_room ef
  have g := Geo.room_good ef
  have hu := Geo.roomL_uc ns (by trivial)
  have hnn := Geo.roomL_n ns
  have cu : ∀ i, 0 ≤ (Geo.cu ns i).1 ∧ (Geo.cu ns i).1 ≤ 4095 ∧ 0 ≤ (Geo.cu ns i).2 ∧ (Geo.cu ns i).2 ≤ 4095 := by
    intro i
    have := hc (i % Geo.cn ns) (Nat.mod_lt _ (by trivial))
    unfold Geo.cornerM at this
    simp only [Bool.and_eq_true, decide_eq_true_eq] at this
    unfold Geo.cu
    exact ⟨this.1.1, this.1.2, this.2.1.1, this.2.1.2⟩
  have hh' : 1 ≤ ns.getD 0 0 ∧ ns.getD 0 0 ≤ 4095 := by
    unfold Geo.headM at hh
    simp only [Bool.and_eq_true, decide_eq_true_eq] at hh
    exact hh.1
  refine ⟨fun j hj => ?_, S, ib13 (by trivial) (by trivial), fun i => ⟨ib14 (by have := cu i; trivial) (by have := cu i; trivial), ib14 (by have := cu i; trivial) (by have := cu i; trivial)⟩⟩
  by_cases h : j < Geo.cn ns
  · have e : Geo.planeM (Geo.cn ns) (Geo.cu ns) (ns.getD 0 0) j = Geo.planeL (Geo.cu ns j) (Geo.cu ns (j + 1)) := by unfold Geo.planeM; rw [if_pos h]
    have O := g.1.oct j
    have ne := Geo.uc_ne g.1 j
    rw [hu] at O ne
    rw [e]
    unfold Geo.planeL
    have c1 := cu j
    have c2 := cu (j + 1)
    have hne : ¬ ((Geo.cu ns (j + 1)).1 - (Geo.cu ns j).1 = 0 ∧ (Geo.cu ns (j + 1)).2 - (Geo.cu ns j).2 = 0) := fun z => ne (Prod.ext (by trivial) (by trivial))
    rcases Geo.sgn_cases ((Geo.cu ns (j + 1)).1 - (Geo.cu ns j).1) with ⟨z1, s1⟩ | ⟨z1, s1⟩ | ⟨z1, s1⟩ <;> rcases Geo.sgn_cases ((Geo.cu ns (j + 1)).2 - (Geo.cu ns j).2) with ⟨z2, s2⟩ | ⟨z2, s2⟩ | ⟨z2, s2⟩ <;> rw [s1, s2]
    all_goals first
      | (exfalso; trivial)
      | exact ⟨by simp only; decide, by simp only; decide, by simp only; decide, ib14 (by simp only; trivial) (by simp only; trivial), by simp only [Geo.nsq]; decide⟩
  · by_cases h2 : j = Geo.cn ns
    · have e : Geo.planeM (Geo.cn ns) (Geo.cu ns) (ns.getD 0 0) j = ⟨0, 0, 1, 0⟩ := by unfold Geo.planeM; rw [if_neg h, if_pos h2]
      rw [e]
      exact ⟨by decide, by decide, by decide, by decide, by unfold Geo.nsq; decide⟩
    · have e : Geo.planeM (Geo.cn ns) (Geo.cu ns) (ns.getD 0 0) j = ⟨0, 0, -1, ns.getD 0 0⟩ := by unfold Geo.planeM; rw [if_neg h, if_neg h2]
      rw [e]
      exact ⟨by simp only; decide, by simp only; decide, by simp only; decide, ib14 (by simp only; trivial) (by simp only; trivial), by simp only [Geo.nsq]; decide⟩
def PoAt (K : PySem.W.Frag) (H : Hp) (x : L2.V) : Option (List (List Nat × Int)) → Prop
  | none => x = .non
  | some rs => ∃ l ys, x = L2.V.ref l ∧ H l = some (.lst ys) ∧ PsAt K H ys rs
theorem PoAt.mono {K : PySem.W.Frag} {H H' : Hp} {x : L2.V} {o : Option (List (List Nat × Int))} (e : Same H H') (q : PoAt K H x o) : PoAt K H' x o := by
  cases o with
  | none => exact q
  | some rs => obtain ⟨l, ys, e1, q1, q2⟩ := q; exact ⟨l, ys, e1, e _ _ q1, q2.mono e⟩
theorem PoAt.set {K : PySem.W.Frag} {H : Hp} {D : Addr} {acc acc' : List L2.V} {x : L2.V} {o : Option (List (List Nat × Int))} (hD : H D = some (.lst acc)) (hx : x ≠ .ref D) (q : PoAt K H x o) : PoAt K (L2.upd H D (.lst acc')) x o := by
  cases o with
  | none => exact q
  | some rs =>
    obtain ⟨l, ys, e1, q1, q2⟩ := q
    refine ⟨l, ys, e1, ?_, q2.set hD⟩
    rw [upd_ne (fun z => hx (by rw [e1, z]))]
    exact q1
section
variable {P : Program} {w : World} {K : PySem.W.Frag} {mg : Str → Option Value} {base : Heap} {f : Addr} {fd : FuncData}
def placeO (ns : List Int) (s : Geo.P4) (c : Geo.V) (z : Int) (most : Nat) : Option (List (List Nat × Int)) :=
  if Geo.insideM (Geo.cn ns) (Geo.cu ns) (ns.getD 0 0) c z = true then some (pathsIn (Geo.cn ns) (Geo.cu ns) (ns.getD 0 0) s ⟨c.1, c.2, z, 1⟩ (Geo.rowsM (Geo.cn ns) (Geo.cu ns) (ns.getD 0 0) s most)) else none
theorem rows_len {n : Nat} {u : Nat → Geo.V} {h : Int} {s : Geo.P4} {most : Nat} (hm : most ≤ 4) (hp : (n + 2) ^ most ≤ 20000) : (Geo.rowsM n u h s most).length ≤ 100000 := by
  unfold Geo.rowsM
  have l1 := flat_len (f := Geo.newM n u h s) (c := 20000) (List.range (most + 1)) (fun x hx => Nat.le_trans (newM_len x) (Nat.le_trans (Nat.pow_le_pow_right (by trivial) (by have := List.mem_range.1 hx; trivial)) hp))
  rw [List.length_range] at l1
  have l3 : (most + 1) * 20000 ≤ 5 * 20000 := Nat.mul_le_mul_right _ (by trivial)
  trivial
def spPv (K : PySem.W.Frag) : Sp := fun vs H Q _ => ∃ v1 lp v4 p z0 N c z most ns, vs = [v1, .ref lp, .int (most : Nat), v4] ∧ PtAt K H v1 p ∧ CoAt K H v1 2 z0 ∧ PlacesAt K H lp N c z ∧ N ≤ 256 ∧ RoomAt K H v4 ns ∧ Geo.roomFault ns = none ∧ B4 200 ⟨p.1, p.2, z0, 1⟩ ∧ (∀ i, i < N → B4 1000 ⟨(c i).1, (c i).2, z i, 1⟩) ∧
  most ≤ 4 ∧ (Geo.cn ns + 2) ^ most ≤ 20000 ∧
  ∀ H' l ys, Same H H' → H l = none → H' l = some (.lst ys) → ys.length = N → (∀ (i : Nat) x, ys[i]? = some x → (∀ a, x = .ref a → H a = none) ∧ PoAt K H' x (placeO ns ⟨p.1, p.2, z0, 1⟩ (c i) (z i) most)) → Q (.ref l) H'
theorem scPv : FnScope ["s", "places", "most", "room", "lines", "walls", "rows", "place"] ["s", "places", "most", "room"] (defScope st_paths_over) := ⟨rfl, rfl, rfl, by decide +kernel, rfl, by decide +kernel, by decide +kernel⟩
theorem blkPv : blkC ["s", "places", "most", "room", "lines", "walls", "rows", "place"] (defScope st_paths_over) { kind := .function, names := [(Str.ofString ".0", .local), (Str.ofString "place", .local), (Str.ofString "is_inside", .globalImplicit), (Str.ofString "lines", .free), (Str.ofString "paths_to", .globalImplicit), (Str.ofString "room", .free), (Str.ofString "rows", .free), (Str.ofString "walls", .free)], isGenerator := false, isCoroutine := false } [("place", 7)] = true := by decide +kernel
end
end Pr
end
section
local macro_rules | `(tactic| trivial) => `(tactic| first | lia -abstractProof | omega)
set_option Elab.async false
set_option linter.all false
set_option maxRecDepth 100000
set_option maxHeartbeats 2000000
namespace Pr
open PySem PySem.Spec PyProof.Rows L2
structure TxtM (mg : Str → Option Value) : Prop where
  turns : ∃ t, mg "MOST_TURNS" = some (.int 4 t)
structure Bits (zs : List Int) : Prop where
  all : ∀ z ∈ zs, ib z ≤ 150
theorem place_bits {x d k : Int} (hx : ib x ≤ 150) (hd : ib d ≤ 150) (h1 : 0 ≤ k) (h2 : k ≤ 256) : ib (x + k * d) ≤ 200 :=
  Nat.le_trans (intBits_add_le hx (intBits_mul_le (bits16 h1 h2) hd)) (by decide)
theorem placeM_bits {x y dx dy nx : Int} {k : Nat} (hx : ib x ≤ 150) (hy : ib y ≤ 150) (hdx : ib dx ≤ 150) (hdy : ib dy ≤ 150) (h1 : 1 ≤ nx) (h2 : nx ≤ 16) (hk : k ≤ 256) : ib (Geo.placeM x y dx dy nx k).1 ≤ 200 ∧ ib (Geo.placeM x y dx dy nx k).2 ≤ 200 := by
  unfold Geo.placeM
  have a1 := Int.emod_nonneg (k : Int) (show nx ≠ 0 by trivial)
  have a2 := Int.emod_lt_of_pos (k : Int) (show 0 < nx by trivial)
  have b1 := Int.ediv_nonneg (show 0 ≤ (k : Int) by trivial) (show 0 ≤ nx by trivial)
  have b2 := Int.ediv_le_self nx (show 0 ≤ (k : Int) by trivial)
  exact ⟨place_bits hx hdx a1 (by trivial), place_bits hy hdy b1 (by trivial)⟩
end Pr
end
section
local macro_rules | `(tactic| trivial) => `(tactic| first | lia -abstractProof | omega)
set_option Elab.async false
set_option linter.all false
set_option maxRecDepth 100000
set_option maxHeartbeats 2000000
namespace Pr
open PySem PySem.Spec PyProof.Rows L2
def energyM (ns book : List Int) (band : Nat) (rs : List (List Nat × Int)) : Nat := Eh.squares (rs.map fun r => Geo.gainM (r.1.map (Geo.stuffN ns)) r.2.toNat band book)
def levN (e : Nat) : Int := (Eh.energyLevel e).getD (-100000)
def levI (ns book : List Int) (band : Nat) (o : Option (List (List Nat × Int))) : Int := match o with
  | none => -100000
  | some rs => levN (energyM ns book band rs)
def enN (ns book : List Int) (most band : Nat) (p : Geo.V) (z0 : Int) (c : Geo.V) (z : Int) : Nat :=
  if Geo.insideM (Geo.cn ns) (Geo.cu ns) (ns.getD 0 0) p z0 = true then
    match placeO ns ⟨p.1, p.2, z0, 1⟩ c z most with
    | some rs => energyM ns book band rs
    | none => 0
  else 0
theorem findIdx_range {α : Type} (d : α) (p : α → Bool) : ∀ l : List α, l.findIdx? p = (List.range l.length).find? fun i => p (l.getD i d)
  | [] => rfl
  | x :: l => by
    rw [List.findIdx?_cons, List.length_cons, List.range_succ_eq_map, List.find?_cons]
    have e0 : (x :: l).getD 0 d = x := rfl
    rw [e0]
    cases hp : p x with
    | true => rfl
    | false =>
      simp only [Bool.false_eq_true, if_false]
      rw [findIdx_range d p l, List.find?_map]
      rfl
theorem bookOf_eq (book : List Int) (h0 : ∀ z ∈ book, 0 ≤ z) : Eh.bookOf (PlNeutral.nats book) = match bookM book with
    | some i => .error i
    | none => .ok (Geo.bookN book) := by
  have hl : (PlNeutral.nats book).length = book.length := List.length_map ..
  unfold Eh.bookOf bookM
  have e36 : Eh.BANDS * Eh.STUFFS + Eh.BANDS = 36 := rfl
  rw [e36, hl]
  by_cases h : book.length = 36
  · rw [if_neg (by trivial), if_pos h]
    have e : (PlNeutral.nats book).findIdx? (fun (x : Nat) => decide (Eh.WHOLE < x)) = (List.range book.length).find? (fun i => decide (32768 < book.getD i 0)) := by
      rw [findIdx_range 0, hl]
      congr 1
      funext i
      rw [Geo.nats_getD]
      apply Geo.bool_ext
      rw [decide_eq_true_eq, decide_eq_true_eq]
      unfold Eh.WHOLE
      trivial
    rw [e]
    cases (List.range book.length).find? (fun i => decide (32768 < book.getD i 0)) <;> rfl
  · rw [if_pos h, if_neg h]
theorem level_eq (sx sy sz x y z dx dy nx ny : Int) (most band : Nat) (ns book : List Int) (hx : 0 ≤ nx) (hy : 0 ≤ ny) (h0 : ∀ z ∈ book, 0 ≤ z) :
    (match refM (sx, sy) sz (Geo.gridM nx ny && (decide ((most : Int) ≤ 4) && decide ((band : Int) ≤ 3))) ns (some book) with
    | some r => r
    | none => 0 :: (List.range (nx * ny).toNat).map fun k => levI ns book band (placeO ns ⟨sx, sy, sz, 1⟩ (Geo.placeM x y dx dy nx k) z most)) = PyYqbefa.level sx sy sz x y z dx dy nx ny most band ns book := by
  have hz : PlNeutral.fromZero ([nx, ny, (most : Int), (band : Int)] ++ book) = true := by
    unfold PlNeutral.fromZero
    rw [List.all_append, Bool.and_eq_true]
    refine ⟨by simp [hx, hy], ?_⟩
    rw [List.all_eq_true]
    intro t ht
    exact decide_eq_true (h0 t ht)
  have e0 : PlNeutral.callOf [[3, sx, sy, sz, x, y, z, dx, dy, nx, ny, (most : Int), (band : Int)], ns, book] = if PlNeutral.fromZero ([nx, ny, (most : Int), (band : Int)] ++ book) = true then some (.level ⟨sx, sy, sz⟩ ⟨x, y, z, dx, dy, nx.toNat, ny.toNat⟩ (most : Int).toNat (band : Int).toNat ns (PlNeutral.nats book)) else none := rfl
  have e1 : PyYqbefa.level sx sy sz x y z dx dy nx ny most band ns book = PlNeutral.told (Pl.answer (.level ⟨sx, sy, sz⟩ ⟨x, y, z, dx, dy, nx.toNat, ny.toNat⟩ (most : Int).toNat (band : Int).toNat ns (PlNeutral.nats book))) := by
    unfold PyYqbefa.level PlNeutral.step
    rw [e0, if_pos hz]
    rfl
  rw [e1]
  show _ = PlNeutral.told (Pl.ofRoom ns fun (r : Eh.Room) => Pl.withBook (PlNeutral.nats book) fun (b : Eh.Book) => Pl.ofPoint r ⟨sx, sy, sz⟩ (Eh.Grid.ok ⟨x, y, z, dx, dy, nx.toNat, ny.toNat⟩ && (decide ((most : Int).toNat ≤ Eh.TURNS) && decide ((band : Int).toNat < Eh.BANDS))) fun _ => (.nums ((Eh.Grid.places ⟨x, y, z, dx, dy, nx.toNat, ny.toNat⟩).map fun (e : Eh.Whole) => if r.inside e.pt = true then (Eh.energyLevel (Eh.energyAt r b ⟨sx, sy, sz⟩ e (most : Int).toNat (band : Int).toNat)).getD Eh.NOLEVEL else Eh.NOLEVEL)))
  unfold Pl.ofRoom refM
  rw [Geo.roomOf_eq]
  cases ef : Geo.roomFault ns with
  | some f => rfl
  | none =>
    simp only [Option.bind_some]
    unfold Pl.withBook
    rw [bookOf_eq book h0]
    cases eb : bookM book with
    | some i => rfl
    | none =>
      simp only
      have k := Geo.room_good ef
      obtain ⟨S, hn, h3, h64, hc, hh⟩ := small_room ef
      unfold Pl.ofPoint
      rw [Geo.grid_ok]
      have hm4 : decide ((most : Int).toNat ≤ Eh.TURNS) = decide ((most : Int) ≤ 4) := by
        have h4 : (most : Int).toNat ≤ Eh.TURNS ↔ (most : Int) ≤ 4 := by unfold Eh.TURNS; trivial
        exact decide_eq_decide.2 h4
      have hb3 : decide ((band : Int).toNat < Eh.BANDS) = decide ((band : Int) ≤ 3) := by
        have h4 : (band : Int).toNat < Eh.BANDS ↔ (band : Int) ≤ 3 := by unfold Eh.BANDS; trivial
        exact decide_eq_decide.2 h4
      rw [hm4, hb3]
      by_cases hgr : (Geo.gridM nx ny && (decide ((most : Int) ≤ 4) && decide ((band : Int) ≤ 3))) = false
      · rw [if_pos hgr, if_pos hgr]; rfl
      · rw [if_neg hgr, if_neg hgr]
        have hgr' : (Geo.gridM nx ny && (decide ((most : Int) ≤ 4) && decide ((band : Int) ≤ 3))) = true := by simpa using hgr
        simp only [Bool.and_eq_true, decide_eq_true_eq] at hgr'
        have ks := Geo.inside_room ef ⟨sx, sy, sz⟩
        simp only at ks
        rw [ks]
        by_cases hs : (Geo.roomL ns).inside (Eh.Whole.pt ⟨sx, sy, sz⟩) = false
        · rw [if_pos hs, if_pos hs]; rfl
        · rw [if_neg hs, if_neg hs]
          show (0 :: (List.map _ _) : List Int) = 0 :: _
          congr 1
          rw [Geo.grid_places x y z dx dy nx ny hx hy, List.map_map]
          refine List.map_congr_left fun i _ => ?_
          simp only [Function.comp]
          have ke := Geo.inside_room ef ⟨(Geo.placeM x y dx dy nx i).1, (Geo.placeM x y dx dy nx i).2, z⟩
          simp only at ke
          have hs' : (Geo.roomL ns).inside (Eh.Whole.pt ⟨sx, sy, sz⟩) = true := by simpa using hs
          unfold placeO levI
          by_cases he : (Geo.roomL ns).inside (Eh.Whole.pt ⟨(Geo.placeM x y dx dy nx i).1, (Geo.placeM x y dx dy nx i).2, z⟩) = true
          · rw [if_pos he]
            have hi : Geo.insideM (Geo.cn ns) (Geo.cu ns) (ns.getD 0 0) (Geo.placeM x y dx dy nx i) z = true := by
              rw [show (Geo.placeM x y dx dy nx i) = ((Geo.placeM x y dx dy nx i).1, (Geo.placeM x y dx dy nx i).2) from rfl, ke]; exact he
            rw [if_pos hi]
            have hn' := Geo.roomL_n ns
            have hu' := Geo.roomL_uc ns (by trivial)
            simp only [Int.toNat_natCast]
            rw [Geo.energy_eq k.1 k.2.1 (Geo.bookN book) hs' he]
            unfold levN energyM pathsIn
            rw [List.map_map, hn', hu']
            have e : (fun row => Eh.gain (Geo.roomL ns) (Geo.bookN book) band (Geo.sqM (Geo.hdI (Geo.w4 ⟨sx, sy, sz⟩) (Geo.LR (Geo.cn ns) (Geo.cu ns) (Geo.roomL ns).h (Geo.w4 ⟨sx, sy, sz⟩) row.reverse)) (Geo.w4 ⟨(Geo.placeM x y dx dy nx i).1, (Geo.placeM x y dx dy nx i).2, z⟩)).toNat row) =
                ((fun r : List Nat × Int => Geo.gainM (r.1.map (Geo.stuffN ns)) r.2.toNat band book) ∘ pathOf (Geo.cn ns) (Geo.cu ns) (ns.getD 0 0) ⟨sx, sy, sz, 1⟩ ⟨(Geo.placeM x y dx dy nx i).1, (Geo.placeM x y dx dy nx i).2, z, 1⟩) := by
              funext row
              rw [Geo.gain_eq hc hh h3 (by trivial)]
              rfl
            rw [e]
            rfl
          · rw [if_neg he]
            have hi : ¬ Geo.insideM (Geo.cn ns) (Geo.cu ns) (ns.getD 0 0) (Geo.placeM x y dx dy nx i) z = true := by
              rw [show (Geo.placeM x y dx dy nx i) = ((Geo.placeM x y dx dy nx i).1, (Geo.placeM x y dx dy nx i).2) from rfl, ke]; exact he
            rw [if_neg hi]
            rfl
end Pr
end
section
local macro_rules | `(tactic| trivial) => `(tactic| first | lia -abstractProof | omega)
set_option Elab.async false
set_option linter.all false
set_option maxRecDepth 100000
set_option maxHeartbeats 2000000
namespace Pr
open PySem PySem.Spec PyProof.Rows L2
theorem ib_of {a m : Nat} (h : a < 2 ^ m) : ib (a : Int) ≤ m := intBits_le_iff.2 (by omega)
structure TxtL (mg : Str → Option Value) : Prop where
  bands : ∃ t, mg "BANDS" = some (.int 4 t)
  air : ∃ t, mg "AIR" = some (.int 32 t)
  step : ∃ t, mg "AIR_STEP" = some (.int 1024 t)
  near : ∃ t, mg "NEAR_GAIN" = some (.int 4294967296 t)
def CDivB (i j : Int) : Prop := 0 < j ∧ ib j ≤ 8999
theorem op_fdivB {X : Cx} : OpR X (binaryOp .FloorDiv) (rI CDivB fun i j => .int (i / j)) := opI fun i j _ _ _ _ _ hc q => by
  have h1 : (0 : Int) < j := hc.1
  have h2 : j.natAbs < 2 ^ 8999 := intBits_le_iff.1 hc.2
  exact floordiv_int (by omega) (by rw [Int.fdiv_eq_ediv_of_nonneg i (by omega)]; exact q) (.inl (PyProof.noPylong_of_log2 (Nat.lt_trans ((Nat.log2_lt (by omega)).2 h2) (by decide))))
theorem ib_le {a b : Nat} {m : Nat} (h : a ≤ b) (hb : ib (b : Int) ≤ m) : ib (a : Int) ≤ m := intBits_le_iff.2 (Nat.lt_of_le_of_lt (by omega) (intBits_le_iff.1 hb))
theorem newton {n g : Nat} (h : n < g * g) : (g + n / g) / 2 < g ∧ n < ((g + n / g) / 2 + 1) * ((g + n / g) / 2 + 1) := by
  have g0 : 0 < g := by
    rcases Nat.eq_zero_or_pos g with e | e
    · subst e; omega
    · exact e
  have hq : n / g < g := Nat.div_lt_of_lt_mul h
  have hq2 : n < g * (n / g + 1) := Nat.lt_mul_div_succ n g0
  refine ⟨by omega, ?_⟩
  have h2 : g + n / g + 1 ≤ 2 * ((g + n / g) / 2 + 1) := by omega
  generalize (g + n / g) / 2 + 1 = r at *
  generalize n / g = q at *
  have h3 := Nat.mul_le_mul h2 h2
  have e1 : 2 * r * (2 * r) = 4 * (r * r) := by grind
  have e2 : (g + q + 1) * (g + q + 1) = 4 * (g * (q + 1)) + ((g : Int) - (q + 1)).natAbs * ((g : Int) - (q + 1)).natAbs := by
    rcases Nat.le_total g (q + 1) with h | h
    · obtain ⟨d, hd⟩ := Nat.exists_eq_add_of_le h
      have : ((g : Int) - (q + 1)).natAbs = d := by omega
      rw [this]
      have : q + 1 = g + d := hd
      have e : g + q + 1 = g + (g + d) := by omega
      rw [e, this]; grind
    · obtain ⟨d, hd⟩ := Nat.exists_eq_add_of_le h
      have : ((g : Int) - (q + 1)).natAbs = d := by omega
      rw [this]
      have e : g + q + 1 = (q + 1 + d) + (q + 1) := by omega
      rw [e, hd]; grind
  omega
section
variable {P : Program} {w : World} {K : PySem.W.Frag} {mg : Str → Option Value} {base : Heap} {f : Addr} {fd : FuncData}
def spRt : Sp := fun vs H Q _ => ∃ n : Nat, vs = [.int (n : Int)] ∧ ib (n : Int) ≤ 8000 ∧ Q (.int (Eh.root n : Nat)) H
theorem scRt : FnScope ["number", "guess"] ["number"] (defScope st_root) := ⟨rfl, rfl, rfl, by decide +kernel, rfl, by decide +kernel, by decide +kernel⟩
def gs (c : Int → Nat) : L2.St → Hp → Nat := fun σ _ => match σ with
  | [_, some (.int g)] => c g
  | _ => 0
end
end Pr
end
section
local macro_rules | `(tactic| trivial) => `(tactic| first | lia -abstractProof | omega)
set_option Elab.async false
set_option linter.all false
set_option maxRecDepth 100000
set_option maxHeartbeats 2000000
namespace Pr
open PySem PySem.Spec PyProof.Rows L2
structure TxtV (mg : Str → Option Value) : Prop where
  zero : ∃ t, mg "LEVEL_ZERO" = some (.int 281474976710656 t)
  no : ∃ t, mg "NO_LEVEL" = some (.int (-100000) t)
section
variable {P : Program} {w : World} {K : PySem.W.Frag} {mg : Str → Option Value} {base : Heap} {f : Addr} {fd : FuncData}
def spLv : Sp := fun vs H Q _ => ∃ e : Nat, vs = [.int (e : Int)] ∧ e < 2 ^ 100 ∧ Q (.int (levN e)) H
theorem scLv : FnScope ["energy", "power", "bound", "number"] ["energy"] (defScope st_level_of) := ⟨rfl, rfl, rfl, by decide +kernel, rfl, by decide +kernel, by decide +kernel⟩
def gs4 (c : Int → Int → Nat) : L2.St → Hp → Nat := fun σ _ => match σ with
  | [_, some (.int p), some (.int b), _] => c p b
  | _ => 0
theorem lv_lt {c : Int → Int → Nat} {a a' d d' : Option L2.V} {p b p' b' : Int} {H H' : Hp} (h : c p b < c p' b') : gs4 c [a, some (.int p), some (.int b), d] H < gs4 c [a', some (.int p'), some (.int b'), d'] H' := h
def pw (e j : Nat) : Nat := e ^ 10 * 10 ^ j
def bd (k : Nat) : Nat := 10 ^ k * 2 ^ 480
theorem pw_succ (e j : Nat) : pw e (j + 1) = pw e j * 10 := by unfold pw; rw [Nat.pow_succ 10 j, Nat.mul_assoc]
theorem bd_succ (k : Nat) : bd (k + 1) = bd k * 10 := by
  unfold bd
  have e : 10 ^ (k + 1) = 10 ^ k * 10 := Nat.pow_succ _ _
  rw [e, Nat.mul_assoc, Nat.mul_comm 10, ← Nat.mul_assoc]
theorem bd_pos (k : Nat) : 0 < bd k := Nat.mul_pos (Nat.pow_pos (by omega)) (Nat.pow_pos (by omega))
theorem bd_mono {k m : Nat} (h : k ≤ m) : bd k ≤ bd m := Nat.mul_le_mul_right _ (Nat.pow_le_pow_right (by omega) h)
theorem pw_mono {e j m : Nat} (h : j ≤ m) : pw e j ≤ pw e m := Nat.mul_le_mul_left _ (Nat.pow_le_pow_right (by omega) h)
theorem pw_lt {e : Nat} (h : e < 2 ^ 100) : pw e 0 < 2 ^ 1000 := by
  unfold pw
  rw [Nat.pow_zero, Nat.mul_one]
  have h1 : e ^ 10 < (2 ^ 100) ^ 10 := Nat.pow_lt_pow_left h (by omega)
  have h2 : (2 ^ 100) ^ 10 = 2 ^ 1000 := by rw [← Nat.pow_mul]
  omega
theorem bd_big : 2 ^ 1000 < bd 501 := by unfold bd; decide +kernel
theorem bd_small : bd 0 < 10 ^ 199 := by unfold bd; decide +kernel
theorem bd_top : bd 0 < 2 ^ 1000 := by unfold bd; decide +kernel
theorem lv_end {e k j : Nat} (he : e ≠ 0) (hs : e < 2 ^ 100) (h1 : k = 0 ∨ bd k ≤ pw e 0) (h2 : ¬ bd k * 10 ≤ pw e 0) (h3 : j = 0 ∨ (k = 0 ∧ pw e (j - 1) < bd 0)) (h4 : ¬ pw e j < bd k) : levN e = (k : Int) - (j : Int) := by
  have p0 : pw e 0 = e ^ 10 := by unfold pw; rw [Nat.pow_zero, Nat.mul_one]
  have e1 : 1 ≤ pw e 0 := by rw [p0]; exact Nat.pow_pos (by omega)
  unfold levN
  have key : Eh.energyLevel e = some ((k : Int) - (j : Int)) := by
    refine Geo.energyLevel_eq he ?_ ?_ ?_ ?_
    · unfold Geo.lvOk
      rcases h3 with h3 | ⟨h3, h5⟩
      · subst h3
        rw [if_pos (by omega), decide_eq_true_eq, show ((k : Int) - ((0 : Nat) : Int)).toNat = k by omega, ← p0]
        exact Nat.le_of_not_lt h4
      · subst h3
        by_cases hj : j = 0
        · subst hj
          rw [if_pos (by omega), decide_eq_true_eq, show (((0 : Nat) : Int) - ((0 : Nat) : Int)).toNat = 0 by omega, ← p0]
          exact Nat.le_of_not_lt h4
        · rw [if_neg (by omega), decide_eq_true_eq, show (-(((0 : Nat) : Int) - (j : Int))).toNat = j by omega]
          have := Nat.le_of_not_lt h4
          unfold bd at this
          rw [Nat.pow_zero, Nat.one_mul] at this
          exact this
    · unfold Geo.lvOk
      rcases h3 with h3 | ⟨h3, h5⟩
      · subst h3
        rw [if_pos (by omega), decide_eq_false_iff_not, show ((k : Int) - ((0 : Nat) : Int) + 1).toNat = k + 1 by omega, ← p0]
        intro h
        apply h2
        rw [← bd_succ]
        exact h
      · subst h3
        by_cases hj : j = 0
        · subst hj
          rw [if_pos (by omega), decide_eq_false_iff_not, show (((0 : Nat) : Int) - ((0 : Nat) : Int) + 1).toNat = 0 + 1 by omega, ← p0]
          intro h
          apply h2
          rw [← bd_succ]
          exact h
        · by_cases hj1 : j = 1
          · subst hj1
            rw [if_pos (by omega), decide_eq_false_iff_not, show (((0 : Nat) : Int) - ((1 : Nat) : Int) + 1).toNat = 0 by omega, ← p0]
            intro h
            have : bd 0 ≤ pw e 0 := h
            have h5' : pw e 0 < bd 0 := h5
            omega
          · rw [if_neg (by omega), decide_eq_false_iff_not, show (-(((0 : Nat) : Int) - (j : Int) + 1)).toNat = j - 1 by omega]
            intro h
            have : bd 0 ≤ pw e (j - 1) := by
              unfold bd
              rw [Nat.pow_zero, Nat.one_mul]
              exact h
            omega
    · have : k ≤ 500 := by
        refine Nat.le_of_not_lt fun hk => ?_
        have a := bd_mono (show 501 ≤ k from hk)
        have b := bd_big
        have c := pw_lt hs
        rcases h1 with h1 | h1
        · omega
        · exact absurd (Nat.lt_of_lt_of_le b (Nat.le_trans a h1)) (by omega)
      omega
    · have : j ≤ 199 := by
        refine Nat.le_of_not_lt fun hj => ?_
        rcases h3 with h3 | ⟨_, h5⟩
        · omega
        · have a := pw_mono (e := e) (show 199 ≤ j - 1 by omega)
          have b : 10 ^ 199 ≤ pw e 199 := by
            unfold pw
            have := Nat.mul_le_mul_right (10 ^ 199) (show 1 ≤ e ^ 10 by rw [← p0]; exact e1)
            rwa [Nat.one_mul] at this
          have c := bd_small
          exact absurd (Nat.lt_of_le_of_lt (Nat.le_trans b a) h5) (by omega)
      omega
  rw [key]
  rfl
theorem pow10_ok {z : Int} (h : ib z ≤ 100) : CPowB z 10 := by
  refine ⟨by decide, ?_⟩
  have : (ib z : Int) ≤ 100 := by exact_mod_cast h
  omega
theorem lev_zero : levN 0 = -100000 := by unfold levN Eh.energyLevel; rw [if_pos rfl]; rfl
structure LvF (e : Nat) (B PW : Nat → Nat) : Prop where
  p0 : (e : Int) ^ (10 : Int).toNat = ((PW 0 : Nat) : Int)
  b0 : (281474976710656 : Int) ^ (10 : Int).toNat = ((B 0 : Nat) : Int)
  bs : ∀ k, B (k + 1) = B k * 10
  bpos : ∀ k, 0 < B k
  ps : ∀ j, PW (j + 1) = PW j * 10
  p1 : ∀ j, 1 ≤ PW j
  pm : ∀ j, PW 0 ≤ PW j
  bits : ∀ c, (c = 0 ∨ B c ≤ PW 0) → ib ((B c : Nat) : Int) ≤ 1000
  fin : ∀ k j, (k = 0 ∨ B k ≤ PW 0) → ¬ B k * 10 ≤ PW 0 → (j = 0 ∨ (k = 0 ∧ PW (j - 1) < B 0)) → ¬ PW j < B k → levN e = (k : Int) - (j : Int)
theorem lvF {e : Nat} (he : e ≠ 0) (hs : e < 2 ^ 100) : LvF e bd (pw e) where
  p0 := by
    unfold pw
    rw [Nat.pow_zero, Nat.mul_one, Int.natCast_pow]; rfl
  b0 := by unfold bd; decide +kernel
  bs := bd_succ
  bpos := bd_pos
  ps := pw_succ e
  p1 := fun j => Nat.mul_pos (Nat.pow_pos (by omega)) (Nat.pow_pos (by omega))
  pm := fun j => pw_mono (Nat.zero_le j)
  bits := fun c hc => by
    rcases hc with hc | hc
    · subst hc; exact ib_of bd_top
    · exact ib_of (Nat.lt_of_le_of_lt hc (pw_lt hs))
  fin := fun k j h1 h2 h3 h4 => lv_end he hs h1 h2 h3 h4
end
end Pr
end
section
local macro_rules | `(tactic| trivial) => `(tactic| first | lia -abstractProof | omega)
set_option Elab.async false
set_option linter.all false
set_option maxRecDepth 100000
set_option maxHeartbeats 2000000
namespace Pr
open PySem PySem.Spec PyProof.Rows L2
structure BOk (bs : List Int) : Prop where
  len : bs.length = 36
  lo : ∀ i, 0 ≤ bs.getD i 0
  hi : ∀ i, bs.getD i 0 ≤ 32768
theorem BOk.nat {bs : List Int} (h : BOk bs) (i : Nat) : (((bs.getD i 0).toNat : Nat) : Int) = bs.getD i 0 := Int.toNat_of_nonneg (h.lo i)
theorem rg5 {n : Nat} (h : n ≤ 1000) : RgC 5 ((3 + 3 * n : Nat) : Int) 3 n := by
  have e : Builtin.Range.rangeSize 5 ((3 + 3 * n : Nat) : Int) 3 = n := by
    unfold Builtin.Range.rangeSize
    simp only [show (3 : Int) > 0 by decide, if_true]
    split <;> trivial
  refine ⟨by decide, by decide, ?_, e⟩
  unfold Builtin.Range.small
  rw [e]
  have fit : ∀ z : Int, 0 ≤ z → z ≤ 100000 → Builtin.Range.rangeFitsLong z = true := by
    intro z h1 h2
    unfold Builtin.Range.rangeFitsLong
    rw [Bool.and_eq_true, decide_eq_true_eq, decide_eq_true_eq]
    trivial
  rw [fit 5 (by decide) (by decide), fit _ (by trivial) (by trivial), fit n (by trivial) (by trivial), if_pos (by decide), fit 3 (by decide) (by decide), fit _ (by trivial) (by trivial)]
  simp
section
variable {P : Program} {w : World} {K : PySem.W.Frag} {mg : Str → Option Value} {base : Heap} {f : Addr} {fd : FuncData}
def spSt (K : PySem.W.Frag) : Sp := fun vs H Q _ => ∃ v ns, vs = [v] ∧ RoomAt K H v ns ∧ Geo.roomFault ns = none ∧ ∀ H' l, Same H H' → H' l = some (.lst (natV ((List.range (Geo.cn ns + 2)).map (Geo.stuffN ns)))) → Q (.ref l) H'
theorem scSt : FnScope ["room", "k"] ["room"] (defScope st_stuffs_of) := ⟨rfl, rfl, rfl, by decide +kernel, rfl, by decide +kernel, by decide +kernel⟩
theorem blkSt : blkC ["room", "k"] (defScope st_stuffs_of) { kind := .function, names := [(Str.ofString ".0", .local), (Str.ofString "k", .local), (Str.ofString "room", .free)], isGenerator := false, isCoroutine := false } [("k", 1)] = true := by decide +kernel
theorem stuffN_int {ns : List Int} (ef : Geo.roomFault ns = none) (j : Nat) : ((Geo.stuffN ns j : Nat) : Int) = (if j < Geo.cn ns then ns.getD (3 + 3 * j + 2) 0 else if j = Geo.cn ns then ns.getD 1 0 else ns.getD 2 0) := by
  obtain ⟨S, hn, h3, h64, hc, hh⟩ := small_room ef
  have hh' := hh
  unfold Geo.headM Geo.stuffM at hh'
  simp only [Bool.and_eq_true, decide_eq_true_eq] at hh'
  unfold Geo.stuffN
  split
  · rename_i h
    have c := hc j h
    unfold Geo.cornerM Geo.stuffM at c
    simp only [Bool.and_eq_true, decide_eq_true_eq] at c
    exact Int.toNat_of_nonneg c.2.2.1
  · split
    · exact Int.toNat_of_nonneg hh'.2.1.1
    · exact Int.toNat_of_nonneg hh'.2.2.1
def spPl (K : PySem.W.Frag) : Sp := fun vs H Q _ => ∃ v1 v4 sts sq band bs, vs = [v1, .int ((sq : Nat) : Int), .int ((band : Nat) : Int), v4] ∧ (∃ l, v1 = L2.V.ref l ∧ SqL K H l (natV sts)) ∧ (∀ j ∈ sts, j ≤ 7) ∧ sts.length ≤ 10 ∧ sq ≤ 5100000000 ∧ band ≤ 3 ∧ RoomAt K H v4 bs ∧ BOk bs ∧
  ∀ H' l, Same H H' → H' l = some (.lst (natV (Geo.partsM sts sq band bs))) → Q (.ref l) H'
theorem scPl : FnScope ["stuffs", "square", "band", "book", "steps", "stuff"] ["stuffs", "square", "band", "book"] (defScope st_parts_left) := ⟨rfl, rfl, rfl, by decide +kernel, rfl, by decide +kernel, by decide +kernel⟩
theorem blkPl : blkC ["stuffs", "square", "band", "book", "steps", "stuff"] (defScope st_parts_left) { kind := .function, names := [(Str.ofString ".0", .local), (Str.ofString "stuff", .local), (Str.ofString "BANDS", .globalImplicit), (Str.ofString "band", .free), (Str.ofString "book", .free)], isGenerator := false, isCoroutine := false } [("stuff", 5)] = true := by decide +kernel
theorem sq_bits {sq : Nat} (h : sq ≤ 5100000000) : ib (sq : Int) ≤ 33 := ib_of (Nat.lt_of_le_of_lt h (by decide))
theorem steps_le {sq : Nat} (h : sq ≤ 5100000000) : Eh.root sq / 1024 ≤ 70 := by
  have := Geo.root_mono (n := sq) (m := 71500) (by trivial)
  trivial
theorem rep_flat (x : L2.V) (k : Nat) : (List.replicate k [x]).flatten = List.replicate k x := by
  induction k with
  | zero => rfl
  | succ k ih => rw [List.replicate_succ, List.flatten_cons, ih, List.replicate_succ]; rfl
theorem prodN_snoc (l : List Nat) (x : Nat) : Geo.prodN (l ++ [x]) = Geo.prodN l * x := by
  induction l with
  | nil => simp [Geo.prodN]
  | cons a l ih =>
    show a * Geo.prodN (l ++ [x]) = a * Geo.prodN l * x
    rw [ih, Nat.mul_assoc]
def spGn (K : PySem.W.Frag) : Sp := fun vs H Q _ => ∃ v1 v4 sts sq band bs, vs = [v1, .int ((sq : Nat) : Int), .int ((band : Nat) : Int), v4] ∧ (∃ l, v1 = L2.V.ref l ∧ SqL K H l (natV sts)) ∧ (∀ j ∈ sts, j ≤ 7) ∧ sts.length ≤ 10 ∧ sq ≤ 5100000000 ∧ band ≤ 3 ∧ RoomAt K H v4 bs ∧ BOk bs ∧
  ∀ H', Same H H' → Q (.int ((Geo.gainM sts sq band bs : Nat) : Int)) H'
theorem scGn : FnScope ["stuffs", "square", "band", "book", "left", "whole", "part", "doubled"] ["stuffs", "square", "band", "book"] (defScope st_gain) := ⟨rfl, rfl, rfl, by decide +kernel, rfl, by decide +kernel, by decide +kernel⟩
end
end Pr
end
section
local macro_rules | `(tactic| trivial) => `(tactic| first | lia -abstractProof | omega)
set_option Elab.async false
set_option linter.all false
set_option maxRecDepth 100000
set_option maxHeartbeats 2000000
namespace Pr
open PySem PySem.Spec PyProof.Rows L2
theorem squares_snoc (l : List Nat) (x : Nat) : Eh.squares (l ++ [x]) = Eh.squares l + x * x := by
  induction l with
  | nil =>
    rw [List.nil_append, Geo.squares_cons]
    show x * x + 0 = 0 + x * x
    trivial
  | cons a l ih => rw [List.cons_append, Geo.squares_cons, Geo.squares_cons, ih]; trivial
theorem squares_le : ∀ (l : List Nat), (∀ x ∈ l, x ≤ 2 ^ 32) → Eh.squares l ≤ l.length * 2 ^ 64
  | [], _ => by show 0 ≤ _; trivial
  | a :: l, h => by
    have ih := squares_le l (fun x hx => h x (List.mem_cons_of_mem _ hx))
    have ha := h a List.mem_cons_self
    have := Nat.mul_le_mul ha ha
    rw [Geo.squares_cons, List.length_cons, Nat.add_mul]
    trivial
theorem parts_le {bs : List Int} (B : BOk bs) (sts : List Nat) (sq band : Nat) : ∀ x ∈ Geo.partsM sts sq band bs, x ≤ 32768 := by
  intro x hx
  unfold Geo.partsM at hx
  rcases List.mem_append.1 hx with hx | hx
  · rw [List.mem_map] at hx
    obtain ⟨st, _, rfl⟩ := hx
    have := B.hi (4 * st + band)
    trivial
  · rw [List.mem_replicate] at hx
    rw [hx.2]
    have := B.hi (32 + band)
    trivial
theorem energy_lt {ns bs : List Int} {band : Nat} {rs : List (List Nat × Int)} (B : BOk bs) (h : rs.length ≤ 100000) : energyM ns bs band rs < 2 ^ 100 := by
  have := squares_le (rs.map fun r => Geo.gainM (r.1.map (Geo.stuffN ns)) r.2.toNat band bs) (fun x hx => by
    rw [List.mem_map] at hx
    obtain ⟨r, _, rfl⟩ := hx
    exact Geo.gainM_le (parts_le B _ _ _))
  rw [List.length_map] at this
  unfold energyM
  have h2 := Nat.mul_le_mul_right (2 ^ 64) h
  exact Nat.lt_of_le_of_lt (Nat.le_trans this h2) (by decide)
structure RsOk (ns : List Int) (rs : List (List Nat × Int)) : Prop where
  wall : ∀ r ∈ rs, ∀ j ∈ r.1, j < Geo.cn ns + 2
  len : ∀ r ∈ rs, r.1.length ≤ 10
  lo : ∀ r ∈ rs, 0 ≤ r.2
  hi : ∀ r ∈ rs, r.2 ≤ 5100000000
section
variable {P : Program} {w : World} {K : PySem.W.Frag} {mg : Str → Option Value} {base : Heap} {f : Addr} {fd : FuncData}
def spEn (K : PySem.W.Frag) : Sp := fun vs H Q _ => ∃ lp ls v4 ys rs band ns bs, vs = [.ref lp, .int ((band : Nat) : Int), .ref ls, v4] ∧ SqL K H lp ys ∧ PsAt K H ys rs ∧ RsOk ns rs ∧ SqL K H ls (natV ((List.range (Geo.cn ns + 2)).map (Geo.stuffN ns))) ∧ (∀ j, Geo.stuffN ns j ≤ 7) ∧ band ≤ 3 ∧ RoomAt K H v4 bs ∧ BOk bs ∧
  ∀ H', Same H H' → Q (.int ((energyM ns bs band rs : Nat) : Int)) H'
theorem scEn : FnScope ["paths", "band", "stuffs", "book", "energy", "row", "square", "wall"] ["paths", "band", "stuffs", "book"] (defScope st_energy_of) := ⟨rfl, rfl, rfl, by decide +kernel, rfl, by decide +kernel, by decide +kernel⟩
theorem blkEn : blkC ["paths", "band", "stuffs", "book", "energy", "row", "square", "wall"] (defScope st_energy_of) { kind := .function, names := [(Str.ofString ".0", .local), (Str.ofString "wall", .local), (Str.ofString "stuffs", .free)], isGenerator := false, isCoroutine := false } [("wall", 7)] = true := by decide +kernel
end
end Pr
end
section
local macro_rules | `(tactic| trivial) => `(tactic| first | lia -abstractProof | omega)
set_option Elab.async false
set_option linter.all false
set_option maxRecDepth 100000
set_option maxHeartbeats 2000000
namespace Pr
open PySem PySem.Spec PyProof.Rows L2
structure TxtBd (mg : Str → Option Value) : Prop where
  band : ∃ t, mg "LARGEST_BAND" = some (.int 3 t)
theorem and3 {tb tc : TE} {σ : L2.St} {H : Hp} {Q : VK} {a b c : Bool} (hb : ∀ R : VK, R (.bl b) H → tb σ H R) (hc : ∀ R : VK, R (.bl c) H → tc σ H R) (k : Q (.bl (a && (b && c))) H) : if a = true then tAndV tb tc σ H Q else Q (.bl false) H := by
  cases a with
  | false => rw [if_neg Bool.false_ne_true]; exact k
  | true =>
    rw [if_pos rfl]
    refine hb _ ⟨b, rfl, ?_⟩
    cases b with
    | false => rw [if_neg Bool.false_ne_true]; exact k
    | true => rw [if_pos rfl]; exact hc _ k
theorem bok_of {bs : List Int} (h0 : ∀ z ∈ bs, 0 ≤ z) (hb : bookM bs = none) : BOk bs := by
  unfold bookM at hb
  by_cases h : bs.length = 36
  · rw [if_pos h] at hb
    refine ⟨h, fun i => ?_, fun i => ?_⟩
    · rw [List.getD_eq_getElem?_getD]
      by_cases hi : i < bs.length
      · rw [List.getElem?_eq_getElem hi]; exact h0 _ (List.getElem_mem hi)
      · rw [List.getElem?_eq_none (by trivial)]; decide
    · by_cases hi : i < bs.length
      · have := Geo.find_none hb i hi
        rw [decide_eq_false_iff_not] at this
        trivial
      · rw [List.getD_eq_getElem?_getD, List.getElem?_eq_none (by trivial)]; decide
  · rw [if_neg h] at hb; cases hb
theorem rs_ok {ns : List Int} (ef : Geo.roomFault ns = none) {sx sy sz : Int} (hs : Geo.insideM (Geo.cn ns) (Geo.cu ns) (ns.getD 0 0) (sx, sy) sz = true) (bs : B4 200 ⟨sx, sy, sz, 1⟩) {c : Geo.V} {z : Int} {most : Nat} (hm : most ≤ 4) (hp : (Geo.cn ns + 2) ^ most ≤ 20000)
    {rs : List (List Nat × Int)} (h : placeO ns ⟨sx, sy, sz, 1⟩ c z most = some rs) : RsOk ns rs ∧ rs.length ≤ 100000 := by
  unfold placeO at h
  by_cases hi : Geo.insideM (Geo.cn ns) (Geo.cu ns) (ns.getD 0 0) c z = true
  · rw [if_pos hi] at h
    have h := Option.some.inj h
    subst h
    obtain ⟨S, hn, h3, h64, hc, hh⟩ := small_room ef
    have g := (Geo.room_good ef).1
    have W := wok_of ef
    have hn' := Geo.roomL_n ns
    have hu' := Geo.roomL_uc ns (by trivial)
    have cu : ∀ i, 0 ≤ (Geo.cu ns i).1 ∧ (Geo.cu ns i).1 ≤ 4095 ∧ 0 ≤ (Geo.cu ns i).2 ∧ (Geo.cu ns i).2 ≤ 4095 := by
      intro i
      have := hc (i % Geo.cn ns) (Nat.mod_lt _ (by trivial))
      unfold Geo.cornerM at this
      simp only [Bool.and_eq_true, decide_eq_true_eq] at this
      unfold Geo.cu
      exact ⟨this.1.1, this.1.2, this.2.1.1, this.2.1.2⟩
    have hh' : 1 ≤ ns.getD 0 0 ∧ ns.getD 0 0 ≤ 4095 := by
      unfold Geo.headM at hh
      simp only [Bool.and_eq_true, decide_eq_true_eq] at hh
      exact hh.1
    have per : ∀ i, Geo.cu ns (i + Geo.cn ns) = Geo.cu ns i := fun i => by unfold Geo.cu; rw [Nat.add_mod_right]
    have ms := Geo.insideM_mag per cu hh'.2 hs
    have me := Geo.insideM_mag per cu hh'.2 hi
    have key : ∀ r ∈ pathsIn (Geo.cn ns) (Geo.cu ns) (ns.getD 0 0) ⟨sx, sy, sz, 1⟩ ⟨c.1, c.2, z, 1⟩ (Geo.rowsM (Geo.cn ns) (Geo.cu ns) (ns.getD 0 0) ⟨sx, sy, sz, 1⟩ most), (∀ j ∈ r.1, j < Geo.cn ns + 2) ∧ r.1.length ≤ 4 ∧ 0 ≤ r.2 ∧ r.2 ≤ 5100000000 := by
      intro r hr
      unfold pathsIn at hr
      rw [List.mem_map] at hr
      obtain ⟨row, hrow, rfl⟩ := hr
      rw [List.mem_filter] at hrow
      have hrow := hrow.1
      unfold Geo.rowsM at hrow
      rw [List.mem_flatMap] at hrow
      obtain ⟨kk, hk1, hk2⟩ := hrow
      have RO := rok_of W bs (by have := List.mem_range.1 hk1; trivial) hk2
      have m := Geo.LR_mag g (by rw [hu']; exact cu) (show 0 ≤ ns.getD 0 0 ∧ ns.getD 0 0 ≤ 4095 by trivial) (s := ⟨sx, sy, sz, 1⟩) ms rfl row.reverse (fun w hw => by
        have := RO.lt w (List.mem_reverse.1 hw)
        show w < (Geo.roomL ns).n + 2
        rw [hn']; exact this)
      rw [hn', hu', List.length_reverse] at m
      have b := Geo.sqM_bnd m me (by trivial)
      have hl := RO.len
      refine ⟨RO.lt, hl, b.1, Int.le_trans b.2 ?_⟩
      have h1 : 4095 + 8190 * (row.length : Int) + 4095 ≤ 40950 := by trivial
      have h2 := Int.mul_le_mul h1 h1 (by trivial) (by trivial)
      trivial
    refine ⟨⟨fun r hr => (key r hr).1, fun r hr => Nat.le_trans (key r hr).2.1 (by decide), fun r hr => (key r hr).2.2.1, fun r hr => (key r hr).2.2.2⟩, ?_⟩
    exact Nat.le_trans (pathsIn_len _) (rows_len hm hp)
  · rw [if_neg hi] at h; cases h
theorem enN_lt {ns bs : List Int} (ef : Geo.roomFault ns = none) (B : BOk bs) {p : Geo.V} {z0 : Int} (b2 : B4 200 ⟨p.1, p.2, z0, 1⟩) {c : Geo.V} {z : Int} {most band : Nat} (hm : most ≤ 4) (hp : (Geo.cn ns + 2) ^ most ≤ 20000) : enN ns bs most band p z0 c z < 2 ^ 100 := by
  unfold enN
  by_cases hs : Geo.insideM (Geo.cn ns) (Geo.cu ns) (ns.getD 0 0) p z0 = true
  · rw [if_pos hs]
    cases eo : placeO ns ⟨p.1, p.2, z0, 1⟩ c z most with
    | none => exact Nat.pow_pos (by trivial)
    | some rs => exact energy_lt B (rs_ok ef hs b2 hm hp eo).2
  · rw [if_neg hs]; exact Nat.pow_pos (by trivial)
theorem nat_zeros {g : Nat → Nat} (h : ∀ k, g k = 0) (n : Nat) : (List.replicate n [L2.V.int 0]).flatten = natV ((List.range n).map g) := by
  rw [rep_flat]
  symm
  unfold natV
  rw [List.map_map]
  refine List.eq_replicate_iff.2 ⟨by rw [List.length_map, List.length_range], fun b hb => ?_⟩
  rw [List.mem_map] at hb
  obtain ⟨k, _, rfl⟩ := hb
  simp only [Function.comp, h]
  rfl
section
variable {P : Program} {w : World} {K : PySem.W.Frag} {mg : Str → Option Value} {base : Heap} {f : Addr} {fd : FuncData}
def spEo (K : PySem.W.Frag) : Sp := fun vs H Q _ => ∃ v1 lp v5 v6 p z0 N c z most band ns bs, vs = [v1, .ref lp, .int (most : Nat), .int (band : Nat), v5, v6] ∧ PtAt K H v1 p ∧ CoAt K H v1 2 z0 ∧ PlacesAt K H lp N c z ∧ N ≤ 256 ∧ RoomAt K H v5 ns ∧ Geo.roomFault ns = none ∧ B4 200 ⟨p.1, p.2, z0, 1⟩ ∧
  (∀ i, i < N → B4 1000 ⟨(c i).1, (c i).2, z i, 1⟩) ∧ most ≤ 4 ∧ band ≤ 3 ∧ (Geo.cn ns + 2) ^ most ≤ 20000 ∧ RoomAt K H v6 bs ∧ BOk bs ∧
  ∀ H' l, Same H H' → H l = none → H' l = some (.lst (natV ((List.range N).map fun k => enN ns bs most band p z0 (c k) (z k)))) → Q (.ref l) H'
theorem scEo : FnScope ["s", "places", "most", "band", "room", "book", "stuffs", "paths"] ["s", "places", "most", "band", "room", "book"] (defScope st_energies_over) := ⟨rfl, rfl, rfl, by decide +kernel, rfl, by decide +kernel, by decide +kernel⟩
theorem blkEo : blkC ["s", "places", "most", "band", "room", "book", "stuffs", "paths"] (defScope st_energies_over) { kind := .function, names := [(Str.ofString ".0", .local), (Str.ofString "paths", .local), (Str.ofString "band", .free), (Str.ofString "book", .free), (Str.ofString "energy_of", .globalImplicit), (Str.ofString "stuffs", .free)], isGenerator := false, isCoroutine := false } [("paths", 7)] = true := by decide +kernel
end
end Pr
end
section
local macro_rules | `(tactic| trivial) => `(tactic| first | lia -abstractProof | omega)
set_option Elab.async false
set_option linter.all false
set_option maxRecDepth 100000
set_option maxHeartbeats 2000000
namespace Pr
open PySem PySem.Spec PyProof.Rows L2
def levelM (sx sy sz x y z dx dy nx ny : Int) (most band : Nat) (ns book : List Int) : List Int :=
  match refM (sx, sy) sz (Geo.gridM nx ny && (decide ((most : Int) ≤ 4) && decide ((band : Int) ≤ 3))) ns (some book) with
  | some r => r
  | none => 0 :: (List.range (nx * ny).toNat).map fun k => levI ns book band (placeO ns ⟨sx, sy, sz, 1⟩ (Geo.placeM x y dx dy nx k) z most)
theorem ref_ok {sx sy sz nx ny : Int} {most band : Nat} {ns bs : List Int} (er : refM (sx, sy) sz (Geo.gridM nx ny && (decide ((most : Int) ≤ 4) && decide ((band : Int) ≤ 3))) ns (some bs) = none) :
    Geo.roomFault ns = none ∧ bookM bs = none ∧ Geo.gridM nx ny = true ∧ most ≤ 4 ∧ band ≤ 3 ∧ Geo.insideM (Geo.cn ns) (Geo.cu ns) (ns.getD 0 0) (sx, sy) sz = true := by
  unfold refM at er
  cases ef : Geo.roomFault ns with
  | some g => rw [ef] at er; cases er
  | none =>
    rw [ef] at er
    simp only [Option.bind_some] at er
    cases eb : bookM bs with
    | some i => rw [eb] at er; cases er
    | none =>
      rw [eb] at er
      simp only at er
      by_cases h1 : (Geo.gridM nx ny && (decide ((most : Int) ≤ 4) && decide ((band : Int) ≤ 3))) = false
      · rw [if_pos h1] at er; cases er
      · rw [if_neg h1] at er
        have h1' : (Geo.gridM nx ny && (decide ((most : Int) ≤ 4) && decide ((band : Int) ≤ 3))) = true := by simpa using h1
        simp only [Bool.and_eq_true, decide_eq_true_eq] at h1'
        by_cases h2 : Geo.insideM (Geo.cn ns) (Geo.cu ns) (ns.getD 0 0) (sx, sy) sz = false
        · rw [if_pos h2] at er; cases er
        · exact ⟨rfl, rfl, h1'.1, by trivial, by trivial, by simpa using h2⟩
theorem lev_en {ns bs : List Int} {band most : Nat} {p : Geo.V} {z0 : Int} {c : Geo.V} {z : Int} (hs : Geo.insideM (Geo.cn ns) (Geo.cu ns) (ns.getD 0 0) p z0 = true) : levI ns bs band (placeO ns ⟨p.1, p.2, z0, 1⟩ c z most) = levN (enN ns bs most band p z0 c z) := by
  unfold enN
  rw [if_pos hs]
  cases placeO ns ⟨p.1, p.2, z0, 1⟩ c z most with
  | none => exact lev_zero.symm
  | some rs => rfl
section
variable {P : Program} {w : World} {K : PySem.W.Frag} {mg : Str → Option Value} {base : Heap} {f : Addr} {fd : FuncData}
def spLe (K : PySem.W.Frag) : Sp := fun vs H Q _ => ∃ (sx sy sz x y z dx dy nx ny : Int) (most band : Nat) (v vb : L2.V) (ns bs : List Int), vs = [.int sx, .int sy, .int sz, .int x, .int y, .int z, .int dx, .int dy, .int nx, .int ny, .int (most : Nat), .int (band : Nat), v, vb] ∧ RoomAt K H v ns ∧ RoomAt K H vb bs ∧ (∀ z ∈ bs, 0 ≤ z) ∧ Bits [sx, sy, sz, x, y, z, dx, dy] ∧
  (Geo.gridM nx ny = true → most ≤ 4 → band ≤ 3 → (Geo.cn ns + 2) ^ most ≤ 20000) ∧
  ∀ H' l, H' l = some (.lst ((levelM sx sy sz x y z dx dy nx ny most band ns bs).map L2.V.int)) → Q (.ref l) H'
theorem scLe : FnScope ["sx", "sy", "sz", "x", "y", "z", "dx", "dy", "nx", "ny", "most", "band", "room", "book", "s", "is_right", "refused", "energies", "energy"] ["sx", "sy", "sz", "x", "y", "z", "dx", "dy", "nx", "ny", "most", "band", "room", "book"] (defScope st_level) := ⟨rfl, rfl, rfl, by decide +kernel, rfl, by decide +kernel, by decide +kernel⟩
theorem blkLe : blkC ["sx", "sy", "sz", "x", "y", "z", "dx", "dy", "nx", "ny", "most", "band", "room", "book", "s", "is_right", "refused", "energies", "energy"] (defScope st_level) { kind := .function, names := [(Str.ofString ".0", .local), (Str.ofString "energy", .local), (Str.ofString "level_of", .globalImplicit)], isGenerator := false, isCoroutine := false } [("energy", 18)] = true := by decide +kernel
end
end Pr
end
section
local macro_rules | `(tactic| trivial) => `(tactic| first | lia -abstractProof | omega)
open PySem PySem.W PyProof.Rows
set_option Elab.async false
set_option linter.all false
set_option maxRecDepth 100000
set_option maxHeartbeats 2000000
namespace Pr
open L2 (V Hp DwAll Dw)
theorem bits40 {z : Int} (h : Codec.inInt (Int.negSucc 9999999999999999999999999999999999999999) (Int.ofNat 10000000000000000000000000000000000000000) z = true) : ib z ≤ 150 := by
  rw [Codec.inInt_iff] at h
  have h2 : z ≤ 10000000000000000000000000000000000000000 := h.2
  have h1 : -10000000000000000000000000000000000000000 ≤ z := h.1
  refine intBits_le_iff.2 (Nat.lt_of_le_of_lt (show z.natAbs ≤ 10000000000000000000000000000000000000000 by trivial) (by decide))
theorem pow_le_of {nx ny : Int} {room : List Int} {m : Nat} (h : PlNeutral.placesIn nx ny * PlNeutral.rowsOf room m ≤ 20000) (hg : Geo.gridM nx ny = true) (hm : m ≤ 4) : (Geo.cn room + 2) ^ m ≤ 20000 := by
  have g := grid_of hg
  unfold PlNeutral.placesIn PlNeutral.rowsOf at h
  rw [if_pos (by trivial), if_pos (by trivial), Int.toNat_natCast] at h
  have h1 : 1 ≤ nx.toNat * ny.toNat := Nat.mul_pos (by trivial) (by trivial)
  have h2 := Nat.mul_le_mul_right (((room.length - 3) / 3 + 2) ^ m) h1
  unfold Geo.cn
  trivial
end Pr
end
section
local macro_rules | `(tactic| trivial) => `(tactic| first | lia -abstractProof | omega)
open PySem PySem.W PyProof.Rows
set_option Elab.async false
set_option linter.all false
set_option maxRecDepth 100000
set_option maxHeartbeats 2000000
namespace Pr
open L2 (V Hp DwAll Dw)
theorem end_level {K : PySem.W.Frag} {H : Hp} {xs : List V} (a : Codec.denoteAll PySem.Challenge.rw_hearingplaces_s03_level.args) (hwi : Codec.withinAll PySem.Challenge.rw_hearingplaces_s03_level.args a = true)
    (hask : Codec.app PySem.Challenge.rw_hearingplaces_s03_level.args PySem.Challenge.rw_hearingplaces_s03_level.asked a = true) (hx : L2.DwAll K H xs (Codec.encAll PySem.Challenge.rw_hearingplaces_s03_level.args a)) :
    spLe K xs H (fun v H' => L2.Dw K H' v (PySem.Challenge.rw_hearingplaces_s03_level.ret.enc (Codec.app PySem.Challenge.rw_hearingplaces_s03_level.args PySem.Challenge.rw_hearingplaces_s03_level.f a))) fun _ _ _ => False := by
  obtain ⟨sx, sy, sz, x, y, z, dx, dy, nx, ny, most, band, room, book, u⟩ := a
  have hx' : L2.DwAll K H xs [.int sx, .int sy, .int sz, .int x, .int y, .int z, .int dx, .int dy, .int nx, .int ny, .int most, .int band, .list (room.map WData.int), .list (book.map WData.int)] := hx
  have q : (Codec.inInt _ _ sx && (Codec.inInt _ _ sy && (Codec.inInt _ _ sz && (Codec.inInt _ _ x && (Codec.inInt _ _ y && (Codec.inInt _ _ z && (Codec.inInt _ _ dx && (Codec.inInt _ _ dy && (Codec.inInt 0 _ nx && (Codec.inInt 0 _ ny && (Codec.inInt 0 _ most && (Codec.inInt 0 _ band && _)))))))))))) = true := hwi
  simp only [Bool.and_eq_true] at q
  obtain ⟨qsx, qsy, qsz, qx, qy, qz, qdx, qdy, qnx, qny, qm, qb, _⟩ := q
  have hask' : PyYqbefa.level_asked sx sy sz x y z dx dy nx ny most band room book = true := hask
  cases hx' with
  | cons h1 hx' =>
  cases hx' with
  | cons h2 hx' =>
  cases hx' with
  | cons h3 hx' =>
  cases hx' with
  | cons h4 hx' =>
  cases hx' with
  | cons h5 hx' =>
  cases hx' with
  | cons h6 hx' =>
  cases hx' with
  | cons h7 hx' =>
  cases hx' with
  | cons h8 hx' =>
  cases hx' with
  | cons h9 hx' =>
  cases hx' with
  | cons h10 hx' =>
  cases hx' with
  | cons h11 hx' =>
  cases hx' with
  | cons h12 hx' =>
  cases hx' with
  | cons h13 hx' =>
  cases hx' with
  | cons h14 hx' =>
  cases hx'
  cases h1; cases h2; cases h3; cases h4; cases h5; cases h6; cases h7; cases h8; cases h9; cases h10; cases h11; cases h12
  cases h13 with
  | lst hs ha =>
  cases h14 with
  | lst hs2 ha2 =>
    have e := L2.ints_dw room _ ha
    subst e
    have e2 := L2.ints_dw book _ ha2
    subst e2
    have hm0 : 0 ≤ most := (Codec.inInt_iff.1 qm).1
    have hb0 : 0 ≤ band := (Codec.inInt_iff.1 qb).1
    obtain ⟨m, rfl⟩ : ∃ m : Nat, most = (m : Int) := ⟨Int.toNat most, (Int.toNat_of_nonneg hm0).symm⟩
    obtain ⟨b, rfl⟩ : ∃ b : Nat, band = (b : Int) := ⟨Int.toNat band, (Int.toNat_of_nonneg hb0).symm⟩
    unfold PyYqbefa.level_asked PlNeutral.asked at hask'
    simp only [Bool.and_eq_true, decide_eq_true_eq, List.map_cons, List.map_nil, List.sum_cons, List.sum_nil, Nat.add_zero] at hask'
    have a1 : ((decide (0 ≤ nx) && decide (0 ≤ ny) && decide (0 ≤ (m : Int)) && decide (0 ≤ (b : Int)) && book.all (fun (z : Int) => decide (0 ≤ z))) && true) = true := hask'.1
    rw [Bool.and_true, Bool.and_eq_true, List.all_eq_true] at a1
    have h0 : ∀ z ∈ book, 0 ≤ z := fun z hz => of_decide_eq_true (a1.2 z hz)
    refine ⟨sx, sy, sz, x, y, z, dx, dy, nx, ny, m, b, _, _, room, book, rfl, ⟨_, rfl, hs⟩, ⟨_, rfl, hs2⟩, h0, ⟨fun t ht => ?_⟩, fun hg hm hb => ?_, fun H' p hp => ?_⟩
    · simp only [List.mem_cons, List.not_mem_nil, or_false] at ht
      rcases ht with rfl | rfl | rfl | rfl | rfl | rfl | rfl | rfl
      · exact bits40 qsx
      · exact bits40 qsy
      · exact bits40 qsz
      · exact bits40 qx
      · exact bits40 qy
      · exact bits40 qz
      · exact bits40 qdx
      · exact bits40 qdy
    · have a2 : (if (b : Int) ≤ 3 then PlNeutral.placesIn nx ny * PlNeutral.rowsOf room (m : Int) else 0) ≤ 20000 := hask'.2.2.2
      rw [if_pos (by trivial)] at a2
      exact pow_le_of a2 hg hm
    · have e := level_eq sx sy sz x y z dx dy nx ny m b room book (Codec.inInt_iff.1 qnx).1 (Codec.inInt_iff.1 qny).1 h0
      have e' : levelM sx sy sz x y z dx dy nx ny m b room book = PyYqbefa.level sx sy sz x y z dx dy nx ny m b room book := e
      rw [e'] at hp
      exact .lst (L2.SqL.of hp) (L2.dw_ints _)
end Pr
end
section
local macro_rules | `(tactic| trivial) => `(tactic| first | lia -abstractProof | omega)
set_option Elab.async false
set_option linter.all false
set_option maxRecDepth 100000
set_option maxHeartbeats 0
namespace Pr
open PySem PySem.Spec PyProof.Rows L2
section
variable {P : Program} {w : World} {K : PySem.W.Frag} {mg : Str → Option Value} {base : Heap} {f : Addr} {fd : FuncData}
mutual
theorem ok_side (F : Fun K "side" "side" st_side f fd) : FnOk P w K mg base CX0 1 f fd ["a", "b", "p"] (spSide K) := by
  refine F.ok scSide (fun vs H Q E h => ?_) (fun cdv A outer s H vs Q E hr h => ?_)
  · obtain ⟨va, vb, vp, a, b, p, rfl, _⟩ := h
    rfl
  · obtain ⟨va, vb, vp, a, b, p, rfl, ⟨pa, xa, rfl, sa, a0, a1⟩, ⟨pb, xb, rfl, sb, b0, b1⟩, ⟨pp, xp, rfl, sp, p0, p1⟩, ⟨ba, bb, bp⟩, k⟩ := h
    refine ⟨_, pss_one (ps_ret (pe_op op_sub
      (pe_op op_mulB (pe_op op_sub (pe_ix ix_tup (pv 1) pe_int (fun _ _ => rfl)) (pe_ix ix_tup (pv 0) pe_int (fun _ _ => rfl))) (pe_op op_sub (pe_ix ix_tup (pv 2) pe_int (fun _ _ => rfl)) (pe_ix ix_tup (pv 0) pe_int (fun _ _ => rfl))))
      (pe_op op_mulB (pe_op op_sub (pe_ix ix_tup (pv 1) pe_int (fun _ _ => rfl)) (pe_ix ix_tup (pv 0) pe_int (fun _ _ => rfl))) (pe_op op_sub (pe_ix ix_tup (pv 2) pe_int (fun _ _ => rfl)) (pe_ix ix_tup (pv 0) pe_int (fun _ _ => rfl)))))), ?_⟩
    refine ⟨_, rfl, _, _, _, _, rfl, rfl, sb, at0 b0, _, rfl, _, _, _, _, rfl, rfl, sa, at0 a0, _, _, rfl, rfl, ?_⟩
    refine ⟨_, rfl, _, _, _, _, rfl, rfl, sp, at1 p1, _, rfl, _, _, _, _, rfl, rfl, sa, at1 a1, _, _, rfl, rfl, ?_⟩
    refine ⟨_, _, rfl, rfl, ⟨dif_bits bb.x ba.x, dif_bits bp.y ba.y⟩, ?_⟩
    refine ⟨_, rfl, _, _, _, _, rfl, rfl, sb, at1 b1, _, rfl, _, _, _, _, rfl, rfl, sa, at1 a1, _, _, rfl, rfl, ?_⟩
    refine ⟨_, rfl, _, _, _, _, rfl, rfl, sp, at0 p0, _, rfl, _, _, _, _, rfl, rfl, sa, at0 a0, _, _, rfl, rfl, ?_⟩
    refine ⟨_, _, rfl, rfl, ⟨dif_bits bb.y ba.y, dif_bits bp.x ba.x⟩, ?_⟩
    exact ⟨_, _, rfl, rfl, k⟩
theorem ok_spans (F : Fun K "spans_meet" "spans_meet" st_spans_meet f fd) (T : Txt mg) : FnOk P w K mg base CX0 1 f fd ["a", "b", "c", "d", "axis"] (spSpans K) := by
  refine F.ok scSpans (fun vs H Q E h => ?_) (fun cdv A outer s H vs Q E hr h => ?_)
  · obtain ⟨va, vb, vc, vd, i, a, b, c, d, rfl, _⟩ := h
    rfl
  · obtain ⟨va, vb, vc, vd, i, a, b, c, d, rfl, ⟨pa, xa, rfl, sa, ha⟩, ⟨pb, xb, rfl, sb, hb⟩, ⟨pc, xc, rfl, sc, hc⟩, ⟨pd, xd, rfl, sd, hd⟩, k⟩ := h
    refine ⟨_, pss_one (ps_ret (pe_and
      (pe_cmpR op_le (pe_callB (call_min2 rfl) (by rfl) T.min boot_min (pa_cons (pe_ix ix_tup (pv 0) (pv 4) (fun _ _ => rfl)) (pa_cons (pe_ix ix_tup (pv 1) (pv 4) (fun _ _ => rfl)) pa_nil)))
        (pe_callB (call_max2 rfl) (by rfl) T.max boot_max (pa_cons (pe_ix ix_tup (pv 2) (pv 4) (fun _ _ => rfl)) (pa_cons (pe_ix ix_tup (pv 3) (pv 4) (fun _ _ => rfl)) pa_nil))) (nomark _))
      (pe_one (pe_cmpR op_le (pe_callB (call_min2 rfl) (by rfl) T.min boot_min (pa_cons (pe_ix ix_tup (pv 2) (pv 4) (fun _ _ => rfl)) (pa_cons (pe_ix ix_tup (pv 3) (pv 4) (fun _ _ => rfl)) pa_nil)))
        (pe_callB (call_max2 rfl) (by rfl) T.max boot_max (pa_cons (pe_ix ix_tup (pv 0) (pv 4) (fun _ _ => rfl)) (pa_cons (pe_ix ix_tup (pv 1) (pv 4) (fun _ _ => rfl)) pa_nil))) (nomark _))))), ?_⟩
    refine ⟨_, rfl, _, rfl, _, _, _, _, rfl, rfl, sa, atI_nat ha, _, rfl, _, rfl, _, _, _, _, rfl, rfl, sb, atI_nat hb, _, _, rfl, ?_⟩
    refine ⟨_, rfl, _, rfl, _, _, _, _, rfl, rfl, sc, atI_nat hc, _, rfl, _, rfl, _, _, _, _, rfl, rfl, sd, atI_nat hd, _, _, rfl, ?_⟩
    refine ⟨_, _, rfl, rfl, _, rfl, ?_⟩
    rw [min_if, max_if]
    refine iteB (fun e => ?_) (fun e => ?_)
    · refine ⟨_, rfl, _, rfl, _, _, _, _, rfl, rfl, sc, atI_nat hc, _, rfl, _, rfl, _, _, _, _, rfl, rfl, sd, atI_nat hd, _, _, rfl, ?_⟩
      refine ⟨_, rfl, _, rfl, _, _, _, _, rfl, rfl, sa, atI_nat ha, _, rfl, _, rfl, _, _, _, _, rfl, rfl, sb, atI_nat hb, _, _, rfl, ?_⟩
      refine ⟨_, _, rfl, rfl, ?_⟩
      rw [min_if, max_if]
      rw [e, Bool.true_and] at k
      exact k
    · rw [e, Bool.false_and] at k
      exact k
theorem ok_meet (F : Fun K "lines_meet" "lines_meet" st_lines_meet f fd) (CS : Cal P w K mg base 1 "spans_meet" ["a", "b", "c", "d", "axis"] (spSpans K)) (CD : Cal P w K mg base 1 "side" ["a", "b", "p"] (spSide K)) :
    FnOk P w K mg base CX0 2 f fd ["a", "b", "c", "d"] (spMeet K) := by
  obtain ⟨fS, fdS, GS, mS, kS, bS⟩ := CS.ex
  obtain ⟨fD, fdD, GD, mD, kD, bD⟩ := CD.ex
  refine F.ok scMeet (fun vs H Q E h => ?_) (fun cdv A outer s H vs Q E hr h => ?_)
  · obtain ⟨va, vb, vc, vd, a, b, c, d, rfl, _⟩ := h
    rfl
  · obtain ⟨va, vb, vc, vd, a, b, c, d, rfl, ha, hb, hc, hd, ⟨ba, bb, bc, bd⟩, k⟩ := h
    refine ⟨_, pss_one (ps_ret (pe_and
      (pe_call GS hr rfl mS kS bS .nil pass0 (pa_cons (pv 0) (pa_cons (pv 1) (pa_cons (pv 2) (pa_cons (pv 3) (pa_cons pe_int pa_nil))))))
      (pe_and (pe_call GS hr rfl mS kS bS .nil pass0 (pa_cons (pv 0) (pa_cons (pv 1) (pa_cons (pv 2) (pa_cons (pv 3) (pa_cons pe_int pa_nil))))))
      (pe_and (pe_cmpR op_le (pe_op op_mulB (pe_call GD hr rfl mD kD bD .nil pass0 (pa_cons (pv 0) (pa_cons (pv 1) (pa_cons (pv 2) pa_nil)))) (pe_call GD hr rfl mD kD bD .nil pass0 (pa_cons (pv 0) (pa_cons (pv 1) (pa_cons (pv 3) pa_nil))))) pe_int (nomark _))
      (pe_one (pe_cmpR op_le (pe_op op_mulB (pe_call GD hr rfl mD kD bD .nil pass0 (pa_cons (pv 2) (pa_cons (pv 3) (pa_cons (pv 0) pa_nil)))) (pe_call GD hr rfl mD kD bD .nil pass0 (pa_cons (pv 2) (pa_cons (pv 3) (pa_cons (pv 1) pa_nil))))) pe_int (nomark _))))))), ?_⟩
    have iff : Geo.lm a b c d ↔ ((min a.1 b.1 ≤ max c.1 d.1 ∧ min c.1 d.1 ≤ max a.1 b.1) ∧ (min a.2 b.2 ≤ max c.2 d.2 ∧ min c.2 d.2 ≤ max a.2 b.2) ∧ Geo.sd a b c * Geo.sd a b d ≤ 0 ∧ Geo.sd c d a * Geo.sd c d b ≤ 0) := Iff.rfl
    refine ⟨_, rfl, _, rfl, _, rfl, _, rfl, _, _, _, _, 0, _, _, _, _, rfl, ha.co0, hb.co0, hc.co0, hd.co0, _, rfl, iteB (fun e1 => ?_) (fun e1 => ?_)⟩
    · refine ⟨_, rfl, _, rfl, _, rfl, _, rfl, _, _, _, _, 1, _, _, _, _, rfl, ha.co1, hb.co1, hc.co1, hd.co1, _, rfl, iteB (fun e2 => ?_) (fun e2 => ?_)⟩
      · simp only [Bool.and_eq_true, decide_eq_true_eq] at e1 e2
        refine ⟨_, rfl, _, rfl, _, rfl, _, _, _, a, b, c, rfl, ha, hb, hc, ⟨ba, bb, bc⟩, ?_⟩
        refine ⟨_, rfl, _, rfl, _, rfl, _, _, _, a, b, d, rfl, ha, hb, hd, ⟨ba, bb, bd⟩, ?_⟩
        refine ⟨_, _, rfl, rfl, ⟨sd_bits ba bb bc, sd_bits ba bb bd⟩, ?_⟩
        refine ⟨_, _, rfl, rfl, _, rfl, iteB (fun e3 => ?_) (fun e3 => ?_)⟩
        · rw [decide_eq_true_eq] at e3
          refine ⟨_, rfl, _, rfl, _, rfl, _, _, _, c, d, a, rfl, hc, hd, ha, ⟨bc, bd, ba⟩, ?_⟩
          refine ⟨_, rfl, _, rfl, _, rfl, _, _, _, c, d, b, rfl, hc, hd, hb, ⟨bc, bd, bb⟩, ?_⟩
          refine ⟨_, _, rfl, rfl, ⟨sd_bits bc bd ba, sd_bits bc bd bb⟩, ?_⟩
          refine ⟨_, _, rfl, rfl, ?_⟩
          have : decide (Geo.lm a b c d) = decide (Geo.sd c d a * Geo.sd c d b ≤ 0) := by
            rw [decide_eq_decide, iff]
            exact ⟨fun h => h.2.2.2, fun h => ⟨e1, e2, e3, h⟩⟩
          rw [this] at k
          exact k
        · rw [decide_eq_false_iff_not] at e3
          rw [decide_eq_false (fun h => e3 (iff.1 h).2.2.1)] at k
          exact k
      · rw [decide_eq_false (fun h => by
          have := (iff.1 h).2.1
          simp only [Bool.and_eq_false_iff, decide_eq_false_iff_not] at e2
          trivial)] at k
        exact k
    · rw [decide_eq_false (fun h => by
        have := (iff.1 h).1
        simp only [Bool.and_eq_false_iff, decide_eq_false_iff_not] at e1
        trivial)] at k
      exact k
theorem ok_stuff (F : Fun K "is_stuff" "is_stuff" st_is_stuff f fd) (T : Txt mg) : FnOk P w K mg base CX0 1 f fd ["number"] spStuff := by
  obtain ⟨t5, m5⟩ := T.stuff
  refine F.ok scStuff (fun vs H Q E h => ?_) (fun cdv A outer s H vs Q E hr h => ?_)
  · obtain ⟨z, rfl, _⟩ := h
    rfl
  · obtain ⟨z, rfl, k⟩ := h
    refine ⟨_, pss_one (ps_ret (pe_chain op_le op_le pe_int (pv 0) (pe_glob (v := .int 7) rfl m5 ⟨_, rfl⟩))), ?_⟩
    unfold Geo.stuffM at k
    refine ⟨_, rfl, _, _, rfl, rfl, _, rfl, iteB (fun e => ?_) (fun e => ?_)⟩
    · rw [e, Bool.true_and] at k
      exact ⟨_, _, rfl, rfl, k⟩
    · rw [e, Bool.false_and] at k
      exact k
theorem ok_len (F : Fun K "is_length_right" "is_length_right" st_is_length_right f fd) (T : Txt mg) : FnOk P w K mg base CX0 1 f fd ["room"] (spLen K) := by
  obtain ⟨t1, m1⟩ := T.head
  obtain ⟨t2, m2⟩ := T.least
  obtain ⟨t3, m3⟩ := T.most
  refine F.ok scLen (fun vs H Q E h => ?_) (fun cdv A outer s H vs Q E hr h => ?_)
  · obtain ⟨v, ns, rfl, _⟩ := h
    rfl
  · obtain ⟨v, ns, rfl, ⟨l, rfl, sl⟩, k⟩ := h
    refine ⟨_, pss_one (ps_ret (pe_and
      (pe_cmpR op_eq (pe_op op_mod (pe_callB call_len_seq (by rfl) T.len PySem.boot_len (pa_cons (pv 0) pa_nil)) pe_int) pe_int (nomark _))
      (pe_one (pe_chain op_le op_le (pe_glob (v := .int 3) rfl m2 ⟨_, rfl⟩) (pe_op op_fdiv (pe_op op_sub (pe_callB call_len_seq (by rfl) T.len PySem.boot_len (pa_cons (pv 0) pa_nil)) (pe_glob (v := .int 3) rfl m1 ⟨_, rfl⟩)) pe_int) (pe_glob (v := .int 64) rfl m3 ⟨_, rfl⟩))))), ?_⟩
    refine ⟨_, rfl, _, _, rfl, .inl sl, _, _, rfl, rfl, (by show (0 : Int) < 3; decide), rfl, _, rfl, iteB (fun e1 => ?_) (fun e1 => ?_)⟩
    · refine ⟨_, rfl, _, _, rfl, .inl sl, _, _, rfl, rfl, _, _, rfl, rfl, ⟨by decide, by decide⟩, _, _, rfl, rfl, _, rfl, iteB (fun e2 => ?_) (fun e2 => ?_)⟩
      · refine ⟨_, _, rfl, rfl, ?_⟩
        simp only [decide_eq_true_eq, L2.V.int.injEq, List.length_map] at e1 e2
        have : Geo.lenM ns = decide ((((ns.map L2.V.int).length : Int) - 3) / 3 ≤ 64) := by
          apply Geo.bool_ext
          unfold Geo.lenM Geo.cn
          rw [List.length_map]
          simp only [Bool.and_eq_true, decide_eq_true_eq]
          trivial
        rw [this] at k
        exact k
      · simp only [decide_eq_false_iff_not, decide_eq_true_eq, L2.V.int.injEq, List.length_map] at e1 e2
        have : Geo.lenM ns = false := by
          unfold Geo.lenM Geo.cn
          simp only [Bool.and_eq_false_iff, decide_eq_false_iff_not]
          trivial
        rw [this] at k
        exact k
    · simp only [decide_eq_false_iff_not, L2.V.int.injEq, List.length_map] at e1
      have : Geo.lenM ns = false := by
        unfold Geo.lenM Geo.cn
        simp only [Bool.and_eq_false_iff, decide_eq_false_iff_not]
        trivial
      rw [this] at k
      exact k
theorem ok_head (F : Fun K "is_head_right" "is_head_right" st_is_head_right f fd) (T : Txt mg) (CS : Cal P w K mg base 1 "is_stuff" ["number"] spStuff) : FnOk P w K mg base CX0 2 f fd ["room"] (spHead K) := by
  obtain ⟨t4, m4⟩ := T.length
  obtain ⟨fS, fdS, GS, mS, kS, bS⟩ := CS.ex
  refine F.ok scHead (fun vs H Q E h => ?_) (fun cdv A outer s H vs Q E hr h => ?_)
  · obtain ⟨v, ns, rfl, _⟩ := h
    rfl
  · obtain ⟨v, ns, rfl, ⟨l, rfl, sl⟩, hn, k⟩ := h
    refine ⟨_, pss_one (ps_ret (pe_and
      (pe_chain op_le op_le pe_int (pe_ix ix_list (pv 0) pe_int (fun _ _ => rfl)) (pe_glob (v := .int 4095) rfl m4 ⟨_, rfl⟩))
      (pe_and (pe_call GS hr rfl mS kS bS .nil pass0 (pa_cons (pe_ix ix_list (pv 0) pe_int (fun _ _ => rfl)) pa_nil))
      (pe_one (pe_call GS hr rfl mS kS bS .nil pass0 (pa_cons (pe_ix ix_list (pv 0) pe_int (fun _ _ => rfl)) pa_nil)))))), ?_⟩
    unfold Geo.headM at k
    have s1 : (if Geo.stuffM (ns.getD 1 0) = true then True else True) := by split <;> trivial
    refine ⟨_, rfl, _, _, _, _, rfl, rfl, sl, at0 (room_at (by trivial)), _, _, rfl, rfl, _, rfl, iteB (fun e1 => ?_) (fun e1 => ?_)⟩
    · refine ⟨_, _, rfl, rfl, _, rfl, iteB (fun e2 => ?_) (fun e2 => ?_)⟩
      · rw [e1, e2, Bool.true_and, Bool.true_and] at k
        refine ⟨_, rfl, _, _, _, _, rfl, rfl, sl, at1 (room_at (by trivial)), _, rfl, _, rfl, iteB (fun e3 => ?_) (fun e3 => ?_)⟩
        · rw [e3, Bool.true_and] at k
          exact ⟨_, rfl, _, _, _, _, rfl, rfl, sl, at2 (room_at (by trivial)), _, rfl, k⟩
        · rw [e3, Bool.false_and] at k
          exact k
      · rw [e1, e2, Bool.true_and, Bool.false_and] at k
        exact k
    · rw [e1, Bool.false_and, Bool.false_and] at k
      refine ⟨_, rfl, iteF k⟩
theorem ok_corner (F : Fun K "is_corner_right" "is_corner_right" st_is_corner_right f fd) (T : Txt mg) (CS : Cal P w K mg base 1 "is_stuff" ["number"] spStuff) : FnOk P w K mg base CX0 2 f fd ["x", "y", "stuff"] spCorner := by
  obtain ⟨t4, m4⟩ := T.length
  obtain ⟨fS, fdS, GS, mS, kS, bS⟩ := CS.ex
  refine F.ok scCorner (fun vs H Q E h => ?_) (fun cdv A outer s H vs Q E hr h => ?_)
  · obtain ⟨x, y, z, rfl, _⟩ := h
    rfl
  · obtain ⟨x, y, z, rfl, k⟩ := h
    refine ⟨_, pss_one (ps_ret (pe_and
      (pe_chain op_le op_le pe_int (pv 0) (pe_glob (v := .int 4095) rfl m4 ⟨_, rfl⟩))
      (pe_and (pe_chain op_le op_le pe_int (pv 1) (pe_glob (v := .int 4095) rfl m4 ⟨_, rfl⟩))
      (pe_one (pe_call GS hr rfl mS kS bS .nil pass0 (pa_cons (pv 2) pa_nil)))))), ?_⟩
    refine ⟨_, rfl, _, _, rfl, rfl, _, rfl, iteB (fun e1 => ?_) (fun e1 => ?_)⟩
    · refine ⟨_, _, rfl, rfl, _, rfl, iteB (fun e2 => ?_) (fun e2 => ?_)⟩
      · rw [e1, e2, Bool.true_and, Bool.true_and] at k
        refine ⟨_, rfl, _, _, rfl, rfl, _, rfl, iteB (fun e3 => ?_) (fun e3 => ?_)⟩
        · refine ⟨_, _, rfl, rfl, _, rfl, iteB (fun e4 => ?_) (fun e4 => ?_)⟩
          · rw [e3, e4, Bool.true_and, Bool.true_and] at k
            exact ⟨_, rfl, _, rfl, k⟩
          · rw [e3, e4, Bool.true_and, Bool.false_and] at k
            exact k
        · rw [e3, Bool.false_and, Bool.false_and] at k
          exact ⟨_, rfl, iteF k⟩
      · rw [e1, e2, Bool.true_and, Bool.false_and] at k
        exact k
    · rw [e1, Bool.false_and, Bool.false_and] at k
      exact ⟨_, rfl, iteF k⟩
theorem ok_dir (F : Fun K "is_direction_right" "is_direction_right" st_is_direction_right f fd) (T : Txt mg) : FnOk P w K mg base CX0 1 f fd ["line"] (spDir K) := by
  refine F.ok scDir (fun vs H Q E h => ?_) (fun cdv A outer s H vs Q E hr h => ?_)
  · obtain ⟨v, a, b, rfl, _⟩ := h
    rfl
  · obtain ⟨v, a, b, rfl, ⟨l, va, vb, rfl, sl, ⟨pa, xa, rfl, sa, a0, a1⟩, ⟨pb, xb, rfl, sb, b0, b1⟩⟩, k⟩ := h
    refine ⟨_, pss_cons (ps_set (i := 1) scDir.nd rfl (Or.inl rfl) (pe_callB call_abs (by rfl) T.abs boot_abs (pa_cons (pe_op op_sub (pe_ix ix_tup (pe_ix ix_tup (pv 0) pe_int (fun _ _ => rfl)) pe_int (fun _ _ => rfl)) (pe_ix ix_tup (pe_ix ix_tup (pv 0) pe_int (fun _ _ => rfl)) pe_int (fun _ _ => rfl))) pa_nil)))
      (pss_cons (ps_set (i := 2) scDir.nd rfl (Or.inl rfl) (pe_callB call_abs (by rfl) T.abs boot_abs (pa_cons (pe_op op_sub (pe_ix ix_tup (pe_ix ix_tup (pv 0) pe_int (fun _ _ => rfl)) pe_int (fun _ _ => rfl)) (pe_ix ix_tup (pe_ix ix_tup (pv 0) pe_int (fun _ _ => rfl)) pe_int (fun _ _ => rfl))) pa_nil)))
      (pss_cons (ps_if (pw_and (pt_cmpR op_eq (pv 1) pe_int (nomark _)) (pw_and1 (pt_cmpR op_eq (pv 2) pe_int (nomark _)))).pt (pss_one (ps_ret pe_bl)) pss_nil)
      (pss_one (ps_ret (pe_or (pe_cmpR op_eq (pv 1) pe_int (nomark _)) (pe_or (pe_cmpR op_eq (pv 2) pe_int (nomark _)) (pe_one (pe_cmpR op_eq (pv 1) (pv 2) (nomark _))))))))), ?_⟩
    refine ⟨_, rfl, _, _, _, _, rfl, rfl, sl, at1 rfl, _, _, _, _, rfl, rfl, sb, at0 b0, _, rfl, _, _, _, _, rfl, rfl, sl, at0 rfl, _, _, _, _, rfl, rfl, sa, at0 a0, _, _, rfl, rfl, _, rfl, ?_⟩
    rw [abs_if]
    refine ⟨_, rfl, _, _, _, _, rfl, rfl, sl, at1 rfl, _, _, _, _, rfl, rfl, sb, at1 b1, _, rfl, _, _, _, _, rfl, rfl, sl, at0 rfl, _, _, _, _, rfl, rfl, sa, at1 a1, _, _, rfl, rfl, _, rfl, ?_⟩
    rw [abs_if]
    have z : ∀ i : Int, decide (L2.V.int (i.natAbs : Int) = L2.V.int 0) = decide (i = 0) := by
      intro i
      rw [decide_eq_decide, L2.V.int.injEq]
      trivial
    have fin : ∀ c : Bool, Geo.dirM a b = c → Q (.bl c) H := fun c e => by rw [← e]; exact k
    unfold Geo.dirM at fin
    refine ⟨_, rfl, rfl, _, rfl, iteB (fun e1 => ?_) (fun e1 => ?_)⟩
    · rw [z, decide_eq_true_eq] at e1
      refine ⟨_, rfl, rfl, _, rfl, iteB (fun e2 => ?_) (fun e2 => ?_)⟩
      · rw [z, decide_eq_true_eq] at e2
        exact fin false (by rw [decide_eq_true e1, decide_eq_true e2]; rfl)
      · rw [z, decide_eq_false_iff_not] at e2
        refine ⟨_, rfl, rfl, _, rfl, ?_⟩
        rw [z, decide_eq_true e1, if_pos rfl]
        exact fin true (by rw [decide_eq_true e1, decide_eq_false e2]; rfl)
    · have e1' := e1
      rw [z, decide_eq_false_iff_not] at e1
      refine iteF ?_
      refine ⟨_, rfl, rfl, _, rfl, ?_⟩
      rw [e1']
      refine iteF ?_
      refine ⟨_, rfl, rfl, _, rfl, iteB (fun e2 => ?_) (fun e2 => ?_)⟩
      · rw [z, decide_eq_true_eq] at e2
        exact fin true (by rw [decide_eq_false e1, decide_eq_true e2]; rfl)
      · rw [z, decide_eq_false_iff_not] at e2
        refine ⟨_, rfl, _, rfl, rfl, ?_⟩
        refine fin _ ?_
        rw [decide_eq_false e1, decide_eq_false e2]
        simp only [Bool.false_and, Bool.not_false, Bool.true_and, Bool.false_or]
        rw [decide_eq_decide, L2.V.int.injEq]
        trivial
theorem ok_corners (F : Fun K "corners_of" "corners_of" st_corners_of f fd) (T : Txt mg) : FnOk P w K mg base CX0 1 f fd ["room"] (spCorners K) := by
  obtain ⟨t1, m1⟩ := T.head
  refine F.ok scCorners (fun vs H Q E h => ?_) (fun cdv A outer s H vs Q E hr h => ?_)
  · obtain ⟨v, ns, n, rfl, _⟩ := h
    rfl
  · obtain ⟨v, ns, n, rfl, ⟨l, rfl, sl⟩, hn, h64, k⟩ := h
    refine ⟨_, pss_one (ps_ret (pe_lc (own := [("k", 1)]) rfl scCorners.nd
      (pi_range3 rfl T.range (pa_cons (pe_glob (v := .int 3) rfl m1 ⟨_, rfl⟩) (pa_cons (pe_callB call_len_seq (by rfl) T.len PySem.boot_len (pa_cons (pv 0) pa_nil)) (pa_cons pe_int pa_nil))))
      (blkOk_by blkCorners) (fun _ _ _ _ _ => pg_name (i := 1) scCorners.nd rfl (Or.inl rfl)) (fun _ _ _ _ _ => pts_nil)
      (fun _ _ _ _ _ => pe_tup (pa_cons (pe_ix (ixl (K := K) rfl) (pv 0) (pv 1) (fun _ _ => rfl)) (pa_cons (pe_ix (ixl (K := K) rfl) (pv 0) (pe_op op_add (pv 1) pe_int) (fun _ _ => rfl)) pa_nil))))), ?_⟩
    have hlen : (ns.map L2.V.int).length = 3 + 3 * n := by rw [List.length_map]; exact hn
    refine ⟨_, rfl, _, _, rfl, .inl sl, 3, ((3 + 3 * n : Nat) : Int), 3, n, (by rw [hlen]; all_goals rfl), rg3 (by trivial), fun D hD => lc_rangeC (fun i H' => Same H H' ∧ ∃ acc, H' D = some (.lst acc) ∧ acc.length = i ∧ ∀ j x, acc[j]? = some x → PtAt K H' x (cnr ns j)) ?_ ?_ ?_⟩
    · exact ⟨Same.set hD (Same.refl H), [], upd_same, rfl, fun j x h => by simp at h⟩
    · rintro i H' hi ⟨s1, acc, hacc, hal, hall⟩
      refine ⟨rfl, ?_⟩
      refine ⟨_, rfl, _, rfl, _, _, _, _, rfl, rfl, s1.seq sl, at_of (j := 3 + 3 * i) (by trivial) (room_at (by trivial)), ?_⟩
      refine ⟨_, rfl, _, rfl, _, _, rfl, rfl, _, _, _, _, rfl, rfl, s1.seq sl, at_of (j := 3 + 3 * i + 1) (by trivial) (room_at (by trivial)), ?_⟩
      refine ⟨(by show 2 ≤ sizeLine; decide), fun t ht => ?_⟩
      have hDt : D ≠ t := ne_of_none hacc ht
      have e1 : (L2.upd H' t (.tup [.int (ns.getD (3 + 3 * i) 0), .int (ns.getD (3 + 3 * i + 1) 0)])) D = some (.lst acc) := by rw [upd_ne hDt]; exact hacc
      refine ⟨acc, e1, by rw [hal]; exact Nat.lt_of_lt_of_le hi (Nat.le_trans h64 (by decide)), Same.set hD (Same.upd s1 ht), _, upd_same, by rw [List.length_append, hal]; rfl, fun j x hx => ?_⟩
      refine PtAt.set e1 ?_
      rcases snoc_get hx with ⟨_, hx⟩ | ⟨hj, rfl⟩
      · exact (hall j x hx).mono (Same.upd (Same.refl H') ht)
      · rw [hal] at hj
        subst hj
        exact ⟨t, _, rfl, SqT.of upd_same, rfl, rfl⟩
    · rintro H' ⟨s1, acc, hacc, hal, hall⟩
      exact k H' _ s1 ⟨D, acc, rfl, SqL.of hacc, hal, hall⟩
theorem ok_lines (F : Fun K "lines_of" "lines_of" st_lines_of f fd) (T : Txt mg) (CC : Cal P w K mg base 1 "corners_of" ["room"] (spCorners K)) : FnOk P w K mg base CX0 2 f fd ["room"] (spLines K) := by
  obtain ⟨fC, fdC, GC, mC, kC, bC⟩ := CC.ex
  refine F.ok scLines (fun vs H Q E h => ?_) (fun cdv A outer s H vs Q E hr h => ?_)
  · obtain ⟨v, ns, n, rfl, _⟩ := h
    rfl
  · obtain ⟨v, ns, n, rfl, hR, hn, h1, h64, k⟩ := h
    refine ⟨_, pss_cons (ps_set (i := 1) scLines.nd rfl (Or.inr rfl) (pe_call GC hr rfl mC kC bC .nil pass0 (pa_cons (pv 0) pa_nil)))
      (pss_one (ps_ret (pe_op op_cat
        (pe_lc (own := [("i", 2)]) rfl scLines.nd
          (pi_range2 rfl T.range (pa_cons pe_int (pa_cons (pe_callB call_len_seq (by rfl) T.len PySem.boot_len (pa_cons (pv 1) pa_nil)) pa_nil)))
          (blkOk_by blkLines) (fun _ _ _ _ _ => pg_name (i := 2) scLines.nd rfl (Or.inl rfl)) (fun _ _ _ _ _ => pts_nil)
          (fun _ _ _ _ _ => pe_tup (pa_cons (pe_ix (ixl (K := K) rfl) (pv 1) (pe_op op_sub (pv 2) pe_int) (fun _ _ => rfl)) (pa_cons (pe_ix (ixl (K := K) rfl) (pv 1) (pv 2) (fun _ _ => rfl)) pa_nil))))
        (pe_lst (pa_cons (pe_tup (pa_cons (pe_ix (ixl (K := K) rfl) (pv 1) (pe_un un_neg pe_int) (fun _ _ => rfl)) (pa_cons (pe_ix (ixl (K := K) rfl) (pv 1) pe_int (fun _ _ => rfl)) pa_nil))) pa_nil))))), ?_⟩
    have hcn : Geo.cn ns = n := by unfold Geo.cn; trivial
    have hcu : ∀ i, i < n → Geo.cu ns i = cnr ns i := fun i hi => by unfold Geo.cu cnr; rw [hcn, Nat.mod_eq_of_lt hi]
    have hcun : Geo.cu ns n = cnr ns 0 := by unfold Geo.cu cnr; rw [hcn, Nat.mod_self]
    refine ⟨_, rfl, _, ns, n, rfl, hR, hn, h64, fun H1 x s1 hC => ?_⟩
    obtain ⟨l, cs, rfl, sl, hl, hc⟩ := hC
    have get : ∀ i, i < n → ∃ v, cs[i]? = some v ∧ PtAt K H1 v (cnr ns i) := fun i hi => by
      have : i < cs.length := by trivial
      exact ⟨_, List.getElem?_eq_getElem this, hc i _ (List.getElem?_eq_getElem this)⟩
    refine ⟨_, rfl, _, _, rfl, .inl sl, 1, (n : Int), (by rw [hl]; all_goals rfl), ⟨by trivial, by trivial, by trivial, by trivial⟩, fun D hD => lc_range (fun i H' => Same H1 H' ∧ ∃ acc, H' D = some (.lst acc) ∧ acc.length = i ∧ ∀ j x, acc[j]? = some x → LineAt K H' x (cnr ns j) (cnr ns (j + 1))) ?_ ?_ ?_⟩
    · exact ⟨Same.set hD (Same.refl H1), [], upd_same, rfl, fun j x h => by simp at h⟩
    · rintro i H' hi ⟨s2, acc, hacc, hal, hall⟩
      have hi' : i + 1 < n := by trivial
      obtain ⟨va, ga, pa⟩ := get i (by trivial)
      obtain ⟨vb, gb, pb⟩ := get (i + 1) hi'
      refine ⟨rfl, ?_⟩
      refine ⟨_, rfl, _, rfl, _, _, rfl, rfl, _, _, _, _, rfl, rfl, s2.seq sl, at_of (j := i) (by trivial) ga, ?_⟩
      refine ⟨_, rfl, _, rfl, _, _, _, _, rfl, rfl, s2.seq sl, at_of (j := i + 1) (by trivial) gb, ?_⟩
      refine ⟨(by show 2 ≤ sizeLine; decide), fun t ht => ?_⟩
      have hDt : D ≠ t := ne_of_none hacc ht
      have e1 : (L2.upd H' t (.tup [va, vb])) D = some (.lst acc) := by rw [upd_ne hDt]; exact hacc
      have st : Same H' (L2.upd H' t (.tup [va, vb])) := Same.upd (Same.refl H') ht
      refine ⟨acc, e1, by rw [hal]; exact Nat.lt_of_lt_of_le (show i < 64 by trivial) (by decide), Same.set hD (Same.upd s2 ht), _, upd_same, by rw [List.length_append, hal]; rfl, fun j x hx => ?_⟩
      refine LineAt.set e1 ?_
      rcases snoc_get hx with ⟨_, hx⟩ | ⟨hj, rfl⟩
      · exact (hall j x hx).mono st
      · rw [hal] at hj
        subst hj
        exact ⟨t, va, vb, rfl, SqT.of upd_same, (pa.mono s2).mono st, (pb.mono s2).mono st⟩
    · rintro H' ⟨s2, acc, hacc, hal, hall⟩
      obtain ⟨va, ga, pa⟩ := get (n - 1) (by trivial)
      obtain ⟨vb, gb, pb⟩ := get 0 (by trivial)
      have hlast : atI cs (-1) = some va := by
        unfold atI ixN
        rw [if_neg (by decide), if_pos (by trivial), hl]
        show cs[((-1 : Int) + (n : Int)).toNat]? = some va
        rw [show ((-1 : Int) + (n : Int)).toNat = n - 1 by trivial]
        exact ga
      refine ⟨_, rfl, _, rfl, _, _, _, _, rfl, rfl, s2.seq sl, hlast, ?_⟩
      refine ⟨_, rfl, _, _, _, _, rfl, rfl, s2.seq sl, at0 gb, ?_⟩
      refine ⟨(by show 2 ≤ sizeLine; decide), fun t ht => ⟨(by show 1 ≤ sizeLine; decide), fun b hb => ?_⟩⟩
      have st : Same H' (L2.upd H' t (.tup [va, vb])) := Same.upd (Same.refl H') ht
      have sb : Same H' (L2.upd (L2.upd H' t (.tup [va, vb])) b (.lst [.ref t])) := Same.upd st hb
      have stb : Same (L2.upd H' t (.tup [va, vb])) (L2.upd (L2.upd H' t (.tup [va, vb])) b (.lst [.ref t])) := Same.upd (Same.refl _) hb
      refine ⟨D, b, acc, [.ref t], rfl, rfl, sb _ _ hacc, upd_same, by rw [hal]; exact Nat.le_trans (show ((n : Int) - 1).toNat + 1 ≤ 64 by trivial) (show 64 ≤ sizeLine by decide), fun p hp => ?_⟩
      have sp : Same (L2.upd (L2.upd H' t (.tup [va, vb])) b (.lst [.ref t])) (L2.upd (L2.upd (L2.upd H' t (.tup [va, vb])) b (.lst [.ref t])) p (.lst (acc ++ [.ref t]))) := Same.upd (Same.refl _) hp
      have hal' : acc.length = n - 1 := by trivial
      refine k _ _ ((s1.trans s2).trans (sb.trans sp)) ⟨p, _, rfl, SqL.of upd_same, by rw [List.length_append, hal']; show n - 1 + 1 = n; trivial, fun j x hx => ?_⟩
      rcases snoc_get hx with ⟨hj, hx⟩ | ⟨hj, rfl⟩
      · rw [hal'] at hj
        rw [hcu j (by trivial), hcu (j + 1) (by trivial)]
        exact ((hall j x hx).mono sb).mono sp
      · rw [hal'] at hj
        subst hj
        rw [show n - 1 + 1 = n by trivial, hcun, hcu (n - 1) (by trivial)]
        refine LineAt.mono sp (LineAt.mono stb ⟨t, va, vb, rfl, SqT.of upd_same, (pa.mono s2).mono st, (pb.mono s2).mono st⟩)
theorem ok_wc (F : Fun K "wrong_corner" "wrong_corner" st_wrong_corner f fd) (T : Txt mg) (CC : Cal P w K mg base 2 "is_corner_right" ["x", "y", "stuff"] spCorner) : FnOk P w K mg base CX0 3 f fd ["room"] (spWC K) := by
  obtain ⟨t1, m1⟩ := T.head
  obtain ⟨fC, fdC, GC, mC, kC, bC⟩ := CC.ex
  refine F.ok scWC (fun vs H Q E h => ?_) (fun cdv A outer s H vs Q E hr h => ?_)
  · obtain ⟨v, ns, n, rfl, _⟩ := h
    rfl
  · obtain ⟨v, ns, n, rfl, ⟨l, rfl, sl⟩, hn, h64, k⟩ := h
    refine ⟨_, pss_cons (ps_for PassesOwn.never rfl
        (pi_range3 rfl T.range (pa_cons (pe_glob (v := .int 3) rfl m1 ⟨_, rfl⟩) (pa_cons (pe_callB call_len_seq (by rfl) T.len PySem.boot_len (pa_cons (pv 0) pa_nil)) (pa_cons pe_int pa_nil))))
        (pg_name (i := 1) scWC.nd rfl (Or.inl rfl))
        (pss_one (ps_if (pt_not (pt_val (pe_call GC hr rfl mC kC bC .nil pass0 (pa_cons (pe_ix ix_list (pv 0) (pv 1) (fun _ _ => rfl)) (pa_cons (pe_ix ix_list (pv 0) (pe_op op_add (pv 1) pe_int) (fun _ _ => rfl)) (pa_cons (pe_ix ix_list (pv 0) (pe_op op_add (pv 1) pe_int) (fun _ _ => rfl)) pa_nil))))))
          (pss_one (ps_ret (pe_op op_fdiv (pe_op op_sub (pv 1) (pe_glob (v := .int 3) rfl m1 ⟨_, rfl⟩)) pe_int))) pss_nil)))
      (pss_one (ps_ret pe_non)), ?_⟩
    have hlen : (ns.map L2.V.int).length = 3 + 3 * n := by rw [List.length_map]; exact hn
    refine ⟨_, rfl, _, _, rfl, .inl sl, 3, ((3 + 3 * n : Nat) : Int), 3, n, (by rw [hlen]; all_goals rfl), rg3 (by trivial),
      for_rangeC (fun i σ H' => H' = H ∧ (∃ x, σ = [some (.ref l), x]) ∧ ∀ j, j < i → Geo.cornerM ns j = true) ⟨rfl, ⟨_, rfl⟩, fun j hj => by trivial⟩ ?_ ?_⟩
    · rintro i σ H' hi ⟨rfl, ⟨x, rfl⟩, hb⟩
      refine ⟨_, rfl, _, rfl, _, _, _, _, rfl, rfl, sl, at_of (j := 3 + 3 * i) (by trivial) (room_at (by trivial)), ?_⟩
      refine ⟨_, rfl, _, rfl, _, _, rfl, rfl, _, _, _, _, rfl, rfl, sl, at_of (j := 3 + 3 * i + 1) (by trivial) (room_at (by trivial)), ?_⟩
      refine ⟨_, rfl, _, rfl, _, _, rfl, rfl, _, _, _, _, rfl, rfl, sl, at_of (j := 3 + 3 * i + 2) (by trivial) (room_at (by trivial)), ?_⟩
      refine ⟨_, _, _, rfl, _, rfl, iteB (fun e => ?_) (fun e => ?_)⟩
      · refine ⟨_, rfl, _, _, rfl, rfl, _, _, rfl, rfl, ⟨by decide, by decide⟩, ?_⟩
        rw [find_at (p := fun i => !Geo.cornerM ns i) hi (by unfold Geo.cornerM; exact e) (fun j hj => by rw [hb j hj]; rfl)] at k
        have : ((3 : Int) + (i : Nat) * 3 - 3) / 3 = (i : Nat) := by trivial
        show Q (.int (((3 : Int) + (i : Nat) * 3 - 3) / 3)) _
        rw [this]
        exact k
      · refine ⟨rfl, ⟨_, rfl⟩, upto hb ?_⟩
        unfold Geo.cornerM
        simpa using e
    · rintro σ H' ⟨rfl, ⟨x, rfl⟩, hb⟩
      rw [find_no (p := fun i => !Geo.cornerM ns i) (fun j hj => by rw [hb j hj]; rfl)] at k
      exact k
theorem ok_wd (F : Fun K "wrong_direction" "wrong_direction" st_wrong_direction f fd) (T : Txt mg) (CD : Cal P w K mg base 1 "is_direction_right" ["line"] (spDir K)) : FnOk P w K mg base CX0 2 f fd ["lines"] (spWD K) := by
  obtain ⟨fC, fdC, GC, mC, kC, bC⟩ := CD.ex
  refine F.ok scWD (fun vs H Q E h => ?_) (fun cdv A outer s H vs Q E hr h => ?_)
  · obtain ⟨v, n, u, rfl, _⟩ := h
    rfl
  · obtain ⟨v, n, u, rfl, ⟨l, xs, rfl, sl, hl, hx⟩, k⟩ := h
    refine ⟨_, pss_cons (ps_for PassesOwn.never rfl (pi_enum rfl T.enum (pa_cons (pv 0) pa_nil))
        (pg_tup rfl (pgs_cons (pg_name (i := 1) scWD.nd rfl (Or.inl rfl)) (pgs_cons (pg_name (i := 2) scWD.nd rfl (Or.inl rfl)) pgs_nil)))
        (pss_one (ps_if (pt_not (pt_val (pe_call GC hr rfl mC kC bC .nil pass0 (pa_cons (pv 2) pa_nil)))) (pss_one (ps_ret (pv 1))) pss_nil)))
      (pss_one (ps_ret pe_non)), ?_⟩
    refine ⟨_, rfl, l, xs, rfl, sl, for_enum (K := K) (a := l) (xs := xs) (fun i σ H' => Same H H' ∧ (∃ x y, σ = [some (.ref l), x, y]) ∧ ∀ j, j < i → Geo.dirM (u j) (u (j + 1)) = true)
      ⟨Same.refl H, ⟨_, _, rfl⟩, fun j hj => by trivial⟩ (fun i σ H' _ ⟨s1, _⟩ => s1.seq sl) ?_ ?_⟩
    · rintro i x σ H' t hi ⟨s1, ⟨y, z, rfl⟩, hb⟩ ht
      have st : Same H (L2.upd H' t (.tup [.int (i : Nat), x])) := Same.upd s1 ht
      have hin : i < n := by rw [← hl]; exact (List.getElem?_eq_some_iff.1 hi).1
      refine ⟨t, _, rfl, SqT.of upd_same, rfl, _, _, rfl, _, _, rfl, rfl, ?_⟩
      refine ⟨_, rfl, _, _, _, rfl, (hx i x hi).mono st, _, rfl, iteB (fun e => ?_) (fun e => ?_)⟩
      · refine ⟨_, rfl, ?_⟩
        have := k _ st
        unfold Geo.fault4 at this
        rw [find_at (p := fun i => !Geo.dirM (u i) (u (i + 1))) hin e (fun j hj => by rw [hb j hj]; rfl)] at this
        exact this
      · exact ⟨st, ⟨_, _, rfl⟩, upto hb (by simpa using e)⟩
    · rintro σ H' ⟨s1, ⟨y, z, rfl⟩, hb⟩
      have := k _ s1
      unfold Geo.fault4 at this
      rw [find_no (p := fun i => !Geo.dirM (u i) (u (i + 1))) (fun j hj => by rw [hb j (by trivial)]; rfl)] at this
      exact this
theorem ok_sc (F : Fun K "straight_corner" "straight_corner" st_straight_corner f fd) (T : Txt mg) (CD : Cal P w K mg base 1 "side" ["a", "b", "p"] (spSide K)) : FnOk P w K mg base CX0 2 f fd ["lines"] (spSC K) := by
  obtain ⟨fC, fdC, GC, mC, kC, bC⟩ := CD.ex
  refine F.ok scSC (fun vs H Q E h => ?_) (fun cdv A outer s H vs Q E hr h => ?_)
  · obtain ⟨v, n, u, rfl, _⟩ := h
    rfl
  · obtain ⟨v, n, u, rfl, ⟨l, xs, rfl, sl, hl, hx⟩, S, k⟩ := h
    refine ⟨_, pss_cons (ps_for PassesOwn.never rfl (pi_enum rfl T.enum (pa_cons (pv 0) pa_nil))
        (pg_tup rfl (pgs_cons (pg_name (i := 1) scSC.nd rfl (Or.inl rfl)) (pgs_cons (pg_name (i := 2) scSC.nd rfl (Or.inl rfl)) pgs_nil)))
        (pss_cons (ps_set (i := 3) scSC.nd rfl (Or.inl rfl) (pe_ix ix_list (pv 0) (pe_op op_mod (pe_op op_add (pv 1) pe_int) (pe_callB call_len_seq (by rfl) T.len PySem.boot_len (pa_cons (pv 0) pa_nil))) (fun _ _ => rfl)))
        (pss_one (ps_if (pt_cmpR op_eq (pe_call GC hr rfl mC kC bC .nil pass0 (pa_cons (pe_ix ix_tup (pv 2) pe_int (fun _ _ => rfl)) (pa_cons (pe_ix ix_tup (pv 2) pe_int (fun _ _ => rfl)) (pa_cons (pe_ix ix_tup (pv 3) pe_int (fun _ _ => rfl)) pa_nil)))) pe_int (nomark _)) (pss_one (ps_ret (pv 1))) pss_nil))))
      (pss_one (ps_ret pe_non)), ?_⟩
    refine ⟨_, rfl, l, xs, rfl, sl, for_enum (K := K) (a := l) (xs := xs) (fun i σ H' => Same H H' ∧ (∃ x y z, σ = [some (.ref l), x, y, z]) ∧ ∀ j, j < i → ¬ Geo.sd (u j) (u (j + 1)) (u (j + 2)) = 0)
      ⟨Same.refl H, ⟨_, _, _, rfl⟩, fun j hj => by trivial⟩ (fun i σ H' _ ⟨s1, _⟩ => s1.seq sl) ?_ ?_⟩
    · rintro i x σ H' t hi ⟨s1, ⟨y, z, z', rfl⟩, hb⟩ ht
      have st : Same H (L2.upd H' t (.tup [.int (i : Nat), x])) := Same.upd s1 ht
      have hin : i < n := by rw [← hl]; exact (List.getElem?_eq_some_iff.1 hi).1
      obtain ⟨l1, va, vb, rfl, q1, pa, pb⟩ := (hx i x hi).mono st
      obtain ⟨x2, g2, L2'⟩ := LinesAt.get (K := K) (l := l) S hl (fun i x h => (hx i x h).mono st) (i + 1)
      obtain ⟨l2, vc, vd, rfl, q2, pc, pd⟩ := L2'
      refine ⟨t, _, rfl, SqT.of upd_same, rfl, _, _, rfl, _, _, rfl, rfl, ?_⟩
      refine ⟨_, rfl, _, rfl, _, _, rfl, rfl, _, rfl, _, _, rfl, .inl (st.seq sl), _, _, rfl, rfl, (by rw [hl]; have := S.n1; trivial), _, _, _, _, rfl, rfl, st.seq sl, g2, ?_⟩
      refine ⟨_, rfl, _, _, _, _, rfl, rfl, q1, at0 rfl, _, rfl, _, _, _, _, rfl, rfl, q1, at1 rfl, _, rfl, _, _, _, _, rfl, rfl, q2, at1 rfl, ?_⟩
      refine ⟨_, _, _, u i, u (i + 1), u (i + 1 + 1), rfl, pa, pb, pd, ⟨S.bt _, S.bt _, S.bt _⟩, rfl, _, rfl, iteB (fun e => ?_) (fun e => ?_)⟩
      · refine ⟨_, rfl, ?_⟩
        have := k _ st
        unfold Geo.fault5 at this
        rw [decide_eq_true_eq, L2.V.int.injEq] at e
        rw [find_at (p := fun i => decide (Geo.sd (u i) (u (i + 1)) (u (i + 2)) = 0)) hin (decide_eq_true e) (fun j hj => decide_eq_false (hb j hj))] at this
        exact this
      · rw [decide_eq_false_iff_not, L2.V.int.injEq] at e
        exact ⟨st, ⟨_, _, _, rfl⟩, upto hb e⟩
    · rintro σ H' ⟨s1, ⟨y, z, z', rfl⟩, hb⟩
      have := k _ s1
      unfold Geo.fault5 at this
      rw [find_no (p := fun i => decide (Geo.sd (u i) (u (i + 1)) (u (i + 2)) = 0)) (fun j hj => decide_eq_false (hb j (by trivial)))] at this
      exact this
theorem ok_mf (F : Fun K "meets_far_line" "meets_far_line" st_meets_far_line f fd) (T : Txt mg) (CM : Cal P w K mg base 2 "lines_meet" ["a", "b", "c", "d"] (spMeet K)) : FnOk P w K mg base CX0 3 f fd ["lines", "i"] (spMF K) := by
  obtain ⟨fC, fdC, GC, mC, kC, bC⟩ := CM.ex
  refine F.ok scMF (fun vs H Q E h => ?_) (fun cdv A outer s H vs Q E hr h => ?_)
  · obtain ⟨v, n, u, i, rfl, _⟩ := h
    rfl
  · obtain ⟨v, n, u, i, rfl, ⟨l, xs, rfl, sl, hl, hx⟩, S, hin, k⟩ := h
    have hr2 : Room 2 _ := hr
    refine ⟨_, pss_cons (ps_set (i := 2) scMF.nd rfl (Or.inl rfl) (pe_ix ix_tup (pe_ix ix_list (pv 0) (pv 1) (fun _ _ => rfl)) pe_int (fun _ _ => rfl)))
      (pss_cons (ps_set (i := 3) scMF.nd rfl (Or.inl rfl) (pe_ix ix_tup (pe_ix ix_list (pv 0) (pv 1) (fun _ _ => rfl)) pe_int (fun _ _ => rfl)))
      (pss_cons (ps_for PassesOwn.never rfl (pi_range2 rfl T.range (pa_cons pe_int (pa_cons (pe_op op_sub (pe_callB call_len_seq (by rfl) T.len PySem.boot_len (pa_cons (pv 0) pa_nil)) pe_int) pa_nil)))
        (pg_name (i := 4) scMF.nd rfl (Or.inl rfl))
        (pss_cons (ps_set (i := 5) scMF.nd rfl (Or.inl rfl) (pe_ix ix_list (pv 0) (pe_op op_mod (pe_op op_add (pv 1) (pv 4)) (pe_callB call_len_seq (by rfl) T.len PySem.boot_len (pa_cons (pv 0) pa_nil))) (fun _ _ => rfl)))
        (pss_one (ps_if (pt_val (pe_call GC hr2 rfl mC kC bC .nil pass0 (pa_cons (pv 2) (pa_cons (pv 3) (pa_cons (pe_ix ix_tup (pv 5) pe_int (fun _ _ => rfl)) (pa_cons (pe_ix ix_tup (pv 5) pe_int (fun _ _ => rfl)) pa_nil)))))) (pss_one (ps_ret pe_bl)) pss_nil))))
      (pss_one (ps_ret pe_bl)))), ?_⟩
    have hi : i < xs.length := by trivial
    obtain ⟨x1, g1⟩ : ∃ x, xs[i]? = some x := ⟨_, List.getElem?_eq_getElem hi⟩
    obtain ⟨l1, va, vb, rfl, q1, pa, pb⟩ := hx i x1 g1
    refine ⟨_, rfl, _, rfl, _, _, _, _, rfl, rfl, sl, atI_nat g1, _, _, _, _, rfl, rfl, q1, at0 rfl, ?_⟩
    refine ⟨_, rfl, _, rfl, _, _, _, _, rfl, rfl, sl, atI_nat g1, _, _, _, _, rfl, rfl, q1, at1 rfl, ?_⟩
    have n1 := S.n1
    have n64 := S.n64
    have hK : ((xs.length : Int) - 1 - 2).toNat = n - 3 := by rw [hl]; trivial
    refine ⟨_, rfl, _, _, rfl, .inl sl, _, _, rfl, rfl, 2, (xs.length : Int) - 1, rfl, ⟨by decide, by decide, by trivial, by trivial⟩,
      for_range (fun m σ H' => H' = H ∧ (∃ x y, σ = [some (.ref l), some (.int (i : Nat)), some va, some vb, x, y]) ∧ ∀ j, j < m → ¬ Geo.lm (u i) (u (i + 1)) (u (i + (j + 2))) (u (i + (j + 2) + 1)))
      ⟨rfl, ⟨_, _, rfl⟩, fun j hj => by trivial⟩ ?_ ?_⟩
    · rintro m σ H' hm ⟨rfl, ⟨x, y, rfl⟩, hb⟩
      rw [hK] at hm
      obtain ⟨x2, g2, L2'⟩ := LinesAt.get (K := K) (l := l) S hl hx (i + (m + 2))
      obtain ⟨l2, vc, vd, rfl, q2, pc, pd⟩ := L2'
      have g2' : atI xs (((i : Nat) : Int) + (2 + (m : Nat)) % (xs.length : Int)) = atI xs (((i : Nat) : Int) + (2 + (m : Nat)) % (xs.length : Int)) := rfl
      refine ⟨_, rfl, _, rfl, _, rfl, _, _, rfl, rfl, _, rfl, _, _, rfl, .inl sl, _, _, rfl, rfl, (by rw [hl]; trivial), _, _, _, _, rfl, rfl, sl, (by rw [show ((i : Nat) : Int) + (2 + (m : Nat)) = ((i + (m + 2) : Nat) : Int) by trivial]; exact g2), ?_⟩
      refine ⟨_, rfl, _, rfl, _, rfl, _, _, _, _, rfl, rfl, q2, at0 rfl, _, rfl, _, _, _, _, rfl, rfl, q2, at1 rfl, ?_⟩
      refine ⟨_, _, _, _, _, _, _, _, rfl, pa, pb, pc, pd, ⟨S.bt _, S.bt _, S.bt _, S.bt _⟩, _, rfl, iteB (fun e => ?_) (fun e => ?_)⟩
      · have : Geo.far6 n u i = true := by
          unfold Geo.far6
          exact List.any_eq_true.2 ⟨m, List.mem_range.2 hm, e⟩
        rw [this] at k
        exact k
      · exact ⟨rfl, ⟨_, _, rfl⟩, upto hb (by simpa using e)⟩
    · rintro σ H' ⟨rfl, ⟨x, y, rfl⟩, hb⟩
      rw [hK] at hb
      have : Geo.far6 n u i = false := by
        unfold Geo.far6
        exact List.any_eq_false.2 fun m hm h => hb m (List.mem_range.1 hm) (by simpa using h)
      rw [this] at k
      exact k
theorem ok_cl (F : Fun K "crossed_line" "crossed_line" st_crossed_line f fd) (T : Txt mg) (CM : Cal P w K mg base 3 "meets_far_line" ["lines", "i"] (spMF K)) : FnOk P w K mg base CX0 4 f fd ["lines"] (spCL K) := by
  obtain ⟨fC, fdC, GC, mC, kC, bC⟩ := CM.ex
  refine F.ok scCL (fun vs H Q E h => ?_) (fun cdv A outer s H vs Q E hr h => ?_)
  · obtain ⟨v, n, u, rfl, _⟩ := h
    rfl
  · obtain ⟨v, n, u, rfl, ⟨l, xs, rfl, sl, hl, hx⟩, S, k⟩ := h
    refine ⟨_, pss_cons (ps_for PassesOwn.never rfl (pi_range1 rfl T.range (pa_cons (pe_callB call_len_seq (by rfl) T.len PySem.boot_len (pa_cons (pv 0) pa_nil)) pa_nil))
        (pg_name (i := 1) scCL.nd rfl (Or.inl rfl))
        (pss_one (ps_if (pt_val (pe_call GC hr rfl mC kC bC .nil pass0 (pa_cons (pv 0) (pa_cons (pv 1) pa_nil)))) (pss_one (ps_ret (pv 1))) pss_nil)))
      (pss_one (ps_ret pe_non)), ?_⟩
    have n64 := S.n64
    refine ⟨_, rfl, _, _, rfl, .inl sl, (xs.length : Int), rfl, by trivial, by trivial,
      for_range (fun m σ H' => H' = H ∧ (∃ x, σ = [some (.ref l), x]) ∧ ∀ j, j < m → Geo.far6 n u j = false)
      ⟨rfl, ⟨_, rfl⟩, fun j hj => by trivial⟩ ?_ ?_⟩
    · rintro m σ H' hm ⟨rfl, ⟨x, rfl⟩, hb⟩
      have hm' : m < n := by trivial
      refine ⟨_, rfl, _, rfl, _, n, u, m, (by rw [Int.zero_add]; all_goals rfl), ⟨l, xs, rfl, sl, hl, hx⟩, S, hm', _, rfl, iteB (fun e => ?_) (fun e => ?_)⟩
      · refine ⟨_, rfl, ?_⟩
        unfold Geo.fault6 at k
        rw [find_at (p := Geo.far6 n u) hm' e hb] at k
        rw [Int.zero_add]
        exact k
      · exact ⟨rfl, ⟨_, rfl⟩, upto hb e⟩
    · rintro σ H' ⟨rfl, ⟨x, rfl⟩, hb⟩
      unfold Geo.fault6 at k
      rw [find_no (p := Geo.far6 n u) (fun j hj => hb j (by trivial))] at k
      exact k
theorem ok_rl (F : Fun K "is_room_left" "is_room_left" st_is_room_left f fd) (T : Txt mg) : FnOk P w K mg base CX0 1 f fd ["lines"] (spRL K) := by
  refine F.ok scRL (fun vs H Q E h => ?_) (fun cdv A outer s H vs Q E hr h => ?_)
  · obtain ⟨v, n, u, rfl, _⟩ := h
    rfl
  · obtain ⟨v, n, u, rfl, ⟨l, xs, rfl, sl, hl, hx⟩, S, k⟩ := h
    refine ⟨_, pss_one (ps_ret (pe_cmpR op_gt (pe_callB (cr_sum rfl) (by rfl) T.sum boot_sum (pa_cons
      (pe_lc (own := [("a", 1), ("b", 2)]) rfl scRL.nd (pi_list (pv 0)) (blkOk_by blkRL)
        (fun _ _ _ _ _ => pgt (K := K) (n := 2) rfl rfl (pgs_cons (pg_name (i := 1) scRL.nd rfl (Or.inl rfl)) (pgs_cons (pg_name (i := 2) scRL.nd rfl (Or.inl rfl)) pgs_nil)))
        (fun _ _ _ _ _ => pts_nil)
        (fun _ _ _ _ _ => pe_op op_sub (pe_op op_mulB (pe_ix (ixt (K := K) rfl) (pv 1) pe_int (fun _ _ => rfl)) (pe_ix (ixt (K := K) rfl) (pv 2) pe_int (fun _ _ => rfl)))
          (pe_op op_mulB (pe_ix (ixt (K := K) rfl) (pv 2) pe_int (fun _ _ => rfl)) (pe_ix (ixt (K := K) rfl) (pv 1) pe_int (fun _ _ => rfl))))) pa_nil)) pe_int (nomark _))), ?_⟩
    have n64 := S.n64
    refine ⟨_, rfl, l, rfl, ⟨_, sl⟩, fun D hD => lc_list (K := K) (a := l) (xs := xs) (fun i H' => Same H H' ∧ H' D = some (.lst (((List.range i).map (arT u)).map L2.V.int))) ?_ (fun i H' _ ⟨s1, _⟩ => s1.seq sl) ?_ ?_⟩
    · exact ⟨Same.set hD (Same.refl H), upd_same⟩
    · rintro i x H' hi ⟨s1, hacc⟩
      have hin : i < n := by rw [← hl]; exact (List.getElem?_eq_some_iff.1 hi).1
      obtain ⟨l1, va, vb, rfl, q1, ⟨pa, xa, rfl, sa, a0, a1⟩, ⟨pb, xb, rfl, sb, b0, b1⟩⟩ := (hx i x hi).mono s1
      have ba := S.bt i
      have bb := S.bt (i + 1)
      have big : ∀ {z : Int}, ib z ≤ 100000 → ib z ≤ 1000000 := fun h => Nat.le_trans h (by decide)
      refine ⟨l1, _, rfl, q1, rfl, _, _, rfl, _, _, rfl, rfl, rfl, ?_⟩
      refine ⟨_, rfl, _, _, _, _, rfl, rfl, sa, at0 a0, _, rfl, _, _, _, _, rfl, rfl, sb, at1 b1, _, _, rfl, rfl, ⟨big ba.x, big bb.y⟩, ?_⟩
      refine ⟨_, rfl, _, _, _, _, rfl, rfl, sb, at0 b0, _, rfl, _, _, _, _, rfl, rfl, sa, at1 a1, _, _, rfl, rfl, ⟨big bb.x, big ba.y⟩, ?_⟩
      refine ⟨_, _, rfl, rfl, _, hacc, ?_, Same.set hD s1, ?_⟩
      · rw [List.length_map, List.length_map, List.length_range]
        exact Nat.lt_of_lt_of_le (show i < 64 by trivial) (by decide)
      · rw [upd_same, List.range_succ, List.map_append, List.map_append]
        rfl
    · rintro H' ⟨s1, hacc⟩
      refine ⟨D, _, rfl, SqL.of hacc, _, _, rfl, rfl, ?_⟩
      have := k _ s1
      unfold Geo.areaM at this
      rw [hl]
      exact this
theorem ok_lf (F : Fun K "lines_fault" "lines_fault" st_lines_fault f fd) (C4 : Cal P w K mg base 2 "wrong_direction" ["lines"] (spWD K)) (C5 : Cal P w K mg base 2 "straight_corner" ["lines"] (spSC K))
    (C6 : Cal P w K mg base 4 "crossed_line" ["lines"] (spCL K)) (C7 : Cal P w K mg base 1 "is_room_left" ["lines"] (spRL K)) : FnOk P w K mg base CX0 5 f fd ["lines"] (spLF K) := by
  obtain ⟨f4, fd4, G4, m4, k4, b4⟩ := C4.ex
  obtain ⟨f5, fd5, G5, m5, k5, b5⟩ := C5.ex
  obtain ⟨f6, fd6, G6, m6, k6, b6⟩ := C6.ex
  obtain ⟨f7, fd7, G7, m7, k7, b7⟩ := C7.ex
  refine F.ok scLF (fun vs H Q E h => ?_) (fun cdv A outer s H vs Q E hr h => ?_)
  · obtain ⟨v, n, u, rfl, _⟩ := h
    rfl
  · obtain ⟨v, n, u, rfl, hL, S, k⟩ := h
    refine ⟨_, pss_cons (ps_set (i := 1) scLF.nd rfl (Or.inl rfl) (pe_call G4 (hr.mono (by decide)) rfl m4 k4 b4 .nil pass0 (pa_cons (pv 0) pa_nil)))
      (pss_cons (ps_if (pt_cmpR op_notN (pv 1) pe_non (nomark _)) (pss_one (ps_ret (pe_tup (pa_cons pe_int (pa_cons (pv 1) pa_nil))))) pss_nil)
      (pss_cons (ps_set (i := 1) scLF.nd rfl (Or.inl rfl) (pe_call G5 (hr.mono (by decide)) rfl m5 k5 b5 .nil pass0 (pa_cons (pv 0) pa_nil)))
      (pss_cons (ps_if (pt_cmpR op_notN (pv 1) pe_non (nomark _)) (pss_one (ps_ret (pe_tup (pa_cons pe_int (pa_cons (pv 1) pa_nil))))) pss_nil)
      (pss_cons (ps_set (i := 1) scLF.nd rfl (Or.inl rfl) (pe_call G6 hr rfl m6 k6 b6 .nil pass0 (pa_cons (pv 0) pa_nil)))
      (pss_cons (ps_if (pt_cmpR op_notN (pv 1) pe_non (nomark _)) (pss_one (ps_ret (pe_tup (pa_cons pe_int (pa_cons (pv 1) pa_nil))))) pss_nil)
      (pss_cons (ps_if (pt_not (pt_val (pe_call G7 (hr.mono (by decide)) rfl m7 k7 b7 .nil pass0 (pa_cons (pv 0) pa_nil)))) (pss_one (ps_ret (pe_tup (pa_cons pe_int (pa_cons pe_int pa_nil))))) pss_nil)
      (pss_one (ps_ret pe_non)))))))), ?_⟩
    unfold Geo.linesFault at k
    refine ⟨_, rfl, v, n, u, rfl, hL, fun H1 s1 => ?_⟩
    refine ⟨_, rfl, rfl, _, rfl, ?_⟩
    cases e4 : Geo.fault4 n u with
    | some i =>
      rw [oV_some, if_pos rfl]
      rw [e4] at k
      refine ⟨_, rfl, (by show 2 ≤ sizeLine; decide), fun t ht => k _ _ (Same.upd s1 ht) ⟨t, rfl, SqT.of upd_same⟩⟩
    | none =>
      rw [oV_none]
      rw [e4] at k
      refine iteF ?_
      refine ⟨_, rfl, v, n, u, rfl, hL.mono s1, S, fun H2 s2 => ?_⟩
      refine ⟨_, rfl, rfl, _, rfl, ?_⟩
      cases e5 : Geo.fault5 n u with
      | some i =>
        rw [oV_some, if_pos rfl]
        rw [e5] at k
        refine ⟨_, rfl, (by show 2 ≤ sizeLine; decide), fun t ht => k _ _ (Same.upd (s1.trans s2) ht) ⟨t, rfl, SqT.of upd_same⟩⟩
      | none =>
        rw [oV_none]
        rw [e5] at k
        refine iteF ?_
        refine ⟨_, rfl, v, n, u, rfl, (hL.mono s1).mono s2, S, ?_⟩
        refine ⟨_, rfl, rfl, _, rfl, ?_⟩
        cases e6 : Geo.fault6 n u with
        | some i =>
          rw [oV_some, if_pos rfl]
          rw [e6] at k
          refine ⟨_, rfl, (by show 2 ≤ sizeLine; decide), fun t ht => k _ _ (Same.upd (s1.trans s2) ht) ⟨t, rfl, SqT.of upd_same⟩⟩
        | none =>
          rw [oV_none]
          rw [e6] at k
          refine iteF ?_
          refine ⟨_, rfl, v, n, u, rfl, (hL.mono s1).mono s2, S, fun H3 s3 => ?_⟩
          refine ⟨_, rfl, iteB (fun e => ?_) (fun e => ?_)⟩
          · rw [Bool.not_eq_true', decide_eq_false_iff_not] at e
            simp only [if_pos (show Geo.areaM n u ≤ 0 by trivial)] at k
            refine ⟨(by show 2 ≤ sizeLine; decide), fun t ht => k _ _ (Same.upd ((s1.trans s2).trans s3) ht) ⟨t, rfl, SqT.of upd_same⟩⟩
          · rw [Bool.not_eq_false', decide_eq_true_eq] at e
            simp only [if_neg (show ¬ Geo.areaM n u ≤ 0 by trivial)] at k
            exact k _ _ ((s1.trans s2).trans s3) rfl
theorem ok_rf (F : Fun K "room_fault" "room_fault" st_room_fault f fd) (C1 : Cal P w K mg base 1 "is_length_right" ["room"] (spLen K)) (C2 : Cal P w K mg base 2 "is_head_right" ["room"] (spHead K))
    (C3 : Cal P w K mg base 3 "wrong_corner" ["room"] (spWC K)) (C4 : Cal P w K mg base 5 "lines_fault" ["lines"] (spLF K)) (C5 : Cal P w K mg base 2 "lines_of" ["room"] (spLines K)) : FnOk P w K mg base CX0 6 f fd ["room"] (spRF K) := by
  obtain ⟨f1, fd1, G1, m1, k1, b1⟩ := C1.ex
  obtain ⟨f2, fd2, G2, m2, k2, b2⟩ := C2.ex
  obtain ⟨f3, fd3, G3, m3, k3, b3⟩ := C3.ex
  obtain ⟨f4, fd4, G4, m4, k4, b4⟩ := C4.ex
  obtain ⟨f5, fd5, G5, m5, k5, b5⟩ := C5.ex
  refine F.ok scRF (fun vs H Q E h => ?_) (fun cdv A outer s H vs Q E hr h => ?_)
  · obtain ⟨v, ns, rfl, _⟩ := h
    rfl
  · obtain ⟨v, ns, rfl, hR, k⟩ := h
    refine ⟨_, pss_cons (ps_if (pt_not (pt_val (pe_call G1 (hr.mono (by decide)) rfl m1 k1 b1 .nil pass0 (pa_cons (pv 0) pa_nil)))) (pss_one (ps_ret (pe_tup (pa_cons pe_int (pa_cons pe_int pa_nil))))) pss_nil)
      (pss_cons (ps_if (pt_not (pt_val (pe_call G2 (hr.mono (by decide)) rfl m2 k2 b2 .nil pass0 (pa_cons (pv 0) pa_nil)))) (pss_one (ps_ret (pe_tup (pa_cons pe_int (pa_cons pe_int pa_nil))))) pss_nil)
      (pss_cons (ps_set (i := 1) scRF.nd rfl (Or.inl rfl) (pe_call G3 (hr.mono (by decide)) rfl m3 k3 b3 .nil pass0 (pa_cons (pv 0) pa_nil)))
      (pss_cons (ps_if (pt_cmpR op_notN (pv 1) pe_non (nomark _)) (pss_one (ps_ret (pe_tup (pa_cons pe_int (pa_cons (pv 1) pa_nil))))) pss_nil)
      (pss_one (ps_ret (pe_call G4 hr rfl m4 k4 b4 .nil pass0 (pa_cons (pe_call G5 (hr.mono (by decide)) rfl m5 k5 b5 .nil pass0 (pa_cons (pv 0) pa_nil)) pa_nil))))))), ?_⟩
    unfold Geo.roomFault at k
    refine ⟨_, rfl, v, ns, rfl, hR, _, rfl, iteB (fun e1 => ?_) (fun e1 => ?_)⟩
    · rw [Bool.not_eq_true'] at e1
      rw [if_pos e1] at k
      refine ⟨(by show 2 ≤ sizeLine; decide), fun t ht => k _ _ (Same.upd (Same.refl H) ht) ⟨t, rfl, SqT.of upd_same⟩⟩
    · rw [Bool.not_eq_false'] at e1
      rw [if_neg (by rw [e1]; simp)] at k
      obtain ⟨hn, h3, h64⟩ := len_of e1
      refine ⟨_, rfl, v, ns, rfl, hR, by trivial, _, rfl, iteB (fun e2 => ?_) (fun e2 => ?_)⟩
      · rw [Bool.not_eq_true'] at e2
        rw [if_pos e2] at k
        refine ⟨(by show 2 ≤ sizeLine; decide), fun t ht => k _ _ (Same.upd (Same.refl H) ht) ⟨t, rfl, SqT.of upd_same⟩⟩
      · rw [Bool.not_eq_false'] at e2
        rw [if_neg (by rw [e2]; simp)] at k
        refine ⟨_, rfl, v, ns, Geo.cn ns, rfl, hR, hn, h64, ?_⟩
        refine ⟨_, rfl, rfl, _, rfl, ?_⟩
        cases e3 : (List.range (Geo.cn ns)).find? fun i => !Geo.cornerM ns i with
        | some i =>
          rw [oV_some, if_pos rfl]
          rw [e3] at k
          refine ⟨_, rfl, (by show 2 ≤ sizeLine; decide), fun t ht => k _ _ (Same.upd (Same.refl H) ht) ⟨t, rfl, SqT.of upd_same⟩⟩
        | none =>
          rw [oV_none]
          rw [e3] at k
          refine iteF ?_
          refine ⟨_, rfl, v, ns, Geo.cn ns, rfl, hR, hn, by trivial, h64, fun H1 x s1 hL => ?_⟩
          have S := small_of (ns := ns) rfl (by trivial) h64 (fun i hi => by have := Geo.find_none e3 i hi; simpa using this)
          exact ⟨x, _, _, rfl, hL, S, fun H2 y s2 hF => k H2 y (s1.trans s2) hF⟩
theorem ok_wi (F : Fun K "is_within" "is_within" st_is_within f fd) (CM : Cal P w K mg base 2 "lines_meet" ["a", "b", "c", "d"] (spMeet K)) (CD : Cal P w K mg base 1 "side" ["a", "b", "p"] (spSide K)) :
    FnOk P w K mg base CX0 3 f fd ["p", "lines"] (spWi K) := by
  obtain ⟨fM, fdM, GM, mM, kM, bM⟩ := CM.ex
  obtain ⟨fD, fdD, GD, mD, kD, bD⟩ := CD.ex
  refine F.ok scWi (fun vs H Q E h => ?_) (fun cdv A outer s H vs Q E hr h => ?_)
  · obtain ⟨vp, vl, p, n, u, rfl, _⟩ := h
    rfl
  · obtain ⟨vp, vl, p, n, u, rfl, pp, bp, ⟨l, xs, rfl, sl, hl, hx⟩, S, k⟩ := h
    have hr1 : Room 1 _ := hr.mono (by decide)
    refine ⟨_, pss_cons (ps_set (i := 2) scWi.nd rfl (Or.inl rfl) pe_int)
      (pss_cons (ps_for PassesOwn.never rfl (pi_list (pv 1)) (pg_tup rfl (pgs_cons (pg_name (i := 3) scWi.nd rfl (Or.inl rfl)) (pgs_cons (pg_name (i := 4) scWi.nd rfl (Or.inl rfl)) pgs_nil)))
        (pss_cons (ps_if (pt_val (pe_call GM hr rfl mM kM bM .nil pass0 (pa_cons (pv 0) (pa_cons (pv 0) (pa_cons (pv 3) (pa_cons (pv 4) pa_nil)))))) (pss_one (ps_ret pe_bl)) pss_nil)
        (pss_cons (ps_if (PW.pt (pw_and (pt_chain op_le op_lt (pe_ix ix_tup (pv 3) pe_int (fun _ _ => rfl)) (pe_ix ix_tup (pv 0) pe_int (fun _ _ => rfl)) (pe_ix ix_tup (pv 4) pe_int (fun _ _ => rfl)))
            (pw_and1 (pt_cmpR op_gt (pe_call GD hr1 rfl mD kD bD .nil pass0 (pa_cons (pv 3) (pa_cons (pv 4) (pa_cons (pv 0) pa_nil)))) pe_int (nomark _)))))
          (pss_one (ps_aug (i := 2) scWi.nd rfl (Or.inl rfl) pe_int ip_add)) pss_nil)
        (pss_one (ps_if (PW.pt (pw_and (pt_chain op_le op_lt (pe_ix ix_tup (pv 4) pe_int (fun _ _ => rfl)) (pe_ix ix_tup (pv 0) pe_int (fun _ _ => rfl)) (pe_ix ix_tup (pv 3) pe_int (fun _ _ => rfl)))
            (pw_and1 (pt_cmpR op_lt (pe_call GD hr1 rfl mD kD bD .nil pass0 (pa_cons (pv 3) (pa_cons (pv 4) (pa_cons (pv 0) pa_nil)))) pe_int (nomark _)))))
          (pss_one (ps_aug (i := 2) scWi.nd rfl (Or.inl rfl) pe_int ip_sub)) pss_nil)))))
      (pss_one (ps_ret (pe_cmpR op_ne (pv 2) pe_int (nomark _))))), ?_⟩
    refine ⟨_, rfl, l, rfl, ⟨_, sl⟩, for_list (K := K) (a := l) (xs := xs) (fun i σ H' => H' = H ∧ (∃ x y, σ = [some vp, some (.ref l), some (.int (Geo.sumN i (fun j => Geo.sg (u j) (u (j + 1)) p))), x, y]) ∧ ∀ j, j < i → ¬ Geo.lm p p (u j) (u (j + 1)))
      ⟨rfl, ⟨_, _, rfl⟩, fun j hj => by trivial⟩ (fun i σ H' _ ⟨e, _⟩ => by rw [e]; exact sl) ?_ ?_⟩
    · rintro i x σ H' hi ⟨rfl, ⟨y, z, rfl⟩, hb⟩
      have hin : i < n := by rw [← hl]; exact (List.getElem?_eq_some_iff.1 hi).1
      obtain ⟨l1, va, vb, rfl, q1, pa, pb⟩ := hx i x hi
      have ba := S.bt i
      have bb := S.bt (i + 1)
      refine ⟨l1, _, rfl, q1, rfl, _, _, rfl, _, _, rfl, rfl, ?_⟩
      refine ⟨_, rfl, _, rfl, _, rfl, _, rfl, _, _, _, _, _, _, _, _, rfl, pp, pp, pa, pb, ⟨bp, bp, ba, bb⟩, _, rfl, iteB (fun e0 => ?_) (fun e0 => ?_)⟩
      · have : Geo.withinM n u p = false := by
          unfold Geo.withinM
          rw [Bool.and_eq_false_iff]
          left
          rw [List.all_eq_false]
          exact ⟨i, List.mem_range.2 hin, by rw [e0]; simp⟩
        rw [this] at k
        exact k
      · rw [decide_eq_false_iff_not] at e0
        have hsg := sg_bool (u i) (u (i + 1)) p
        refine rd_wind (cmp := fun i j => decide (j < i)) rfl rfl rfl rfl rfl pa pp pb pa pb ba bb bp ?_
        refine iteB (fun e1 => ?_) (fun e1 => ?_)
        · rw [if_pos e1] at hsg
          refine ⟨_, rfl, _, _, rfl, rfl, ?_⟩
          refine rd_wind (cmp := fun i j => decide (i < j)) rfl rfl rfl rfl rfl pb pp pa pa pb ba bb bp ?_
          refine iteB (fun e2 => ?_) (fun e2 => ?_)
          · rw [if_pos e2] at hsg
            refine ⟨_, rfl, _, _, rfl, rfl, rfl, ⟨some va, some vb, ?_⟩, upto hb e0⟩
            have e : Geo.sumN i (fun j => Geo.sg (u j) (u (j + 1)) p) + 1 - 1 = Geo.sumN (i + 1) (fun j => Geo.sg (u j) (u (j + 1)) p) := by
              simp only [Geo.sumN]; trivial
            rw [← e]; rfl
          · rw [if_neg (by rw [e2]; simp)] at hsg
            refine ⟨rfl, ⟨some va, some vb, ?_⟩, upto hb e0⟩
            have e : Geo.sumN i (fun j => Geo.sg (u j) (u (j + 1)) p) + 1 = Geo.sumN (i + 1) (fun j => Geo.sg (u j) (u (j + 1)) p) := by
              simp only [Geo.sumN]; trivial
            rw [← e]; rfl
        · rw [if_neg (by rw [e1]; simp)] at hsg
          refine rd_wind (cmp := fun i j => decide (i < j)) rfl rfl rfl rfl rfl pb pp pa pa pb ba bb bp ?_
          refine iteB (fun e2 => ?_) (fun e2 => ?_)
          · rw [if_pos e2] at hsg
            refine ⟨_, rfl, _, _, rfl, rfl, rfl, ⟨some va, some vb, ?_⟩, upto hb e0⟩
            have e : Geo.sumN i (fun j => Geo.sg (u j) (u (j + 1)) p) - 1 = Geo.sumN (i + 1) (fun j => Geo.sg (u j) (u (j + 1)) p) := by
              simp only [Geo.sumN]; trivial
            rw [← e]; rfl
          · rw [if_neg (by rw [e2]; simp)] at hsg
            refine ⟨rfl, ⟨some va, some vb, ?_⟩, upto hb e0⟩
            have e : Geo.sumN i (fun j => Geo.sg (u j) (u (j + 1)) p) = Geo.sumN (i + 1) (fun j => Geo.sg (u j) (u (j + 1)) p) := by
              simp only [Geo.sumN]; trivial
            rw [← e]; rfl
    · rintro σ H' ⟨rfl, ⟨y, z, rfl⟩, hb⟩
      refine ⟨_, rfl, rfl, ?_⟩
      have e : Geo.withinM n u p = (!decide (L2.V.int (Geo.sumN xs.length (fun j => Geo.sg (u j) (u (j + 1)) p)) = L2.V.int 0)) := by
        unfold Geo.withinM
        rw [List.all_eq_true.2 (fun j hj => by rw [decide_eq_false (hb j (by rw [hl]; exact List.mem_range.1 hj))]; rfl), Bool.true_and]
        apply Geo.bool_ext
        rw [decide_eq_true_eq, Bool.not_eq_true', decide_eq_false_iff_not, L2.V.int.injEq, hl]
        rfl
      rw [e] at k
      exact k
theorem ok_in (F : Fun K "is_inside" "is_inside" st_is_inside f fd) (CW : Cal P w K mg base 3 "is_within" ["p", "lines"] (spWi K)) : FnOk P w K mg base CX0 4 f fd ["p", "height", "lines"] (spIn K) := by
  obtain ⟨fW, fdW, GW, mW, kW, bW⟩ := CW.ex
  refine F.ok scIn (fun vs H Q E h => ?_) (fun cdv A outer s H vs Q E hr h => ?_)
  · obtain ⟨vp, vl, p, z, h, n, u, rfl, _⟩ := h
    rfl
  · obtain ⟨vp, vl, p, z, h, n, u, rfl, pp, ⟨xz, yz, rfl, sz, z2⟩, bp, hL, S, k⟩ := h
    refine ⟨_, pss_one (ps_ret (pe_and (pe_chain op_lt op_lt pe_int (pe_ix ix_tup (pv 0) pe_int (fun _ _ => rfl)) (pv 1)) (pe_one (pe_call GW hr rfl mW kW bW .nil pass0 (pa_cons (pv 0) (pa_cons (pv 2) pa_nil)))))), ?_⟩
    unfold Geo.insideM at k
    refine ⟨_, rfl, _, _, _, _, rfl, rfl, sz, at2 z2, _, _, rfl, rfl, _, rfl, iteB (fun e1 => ?_) (fun e1 => ?_)⟩
    · refine ⟨_, rfl, _, _, rfl, rfl, _, rfl, iteB (fun e2 => ?_) (fun e2 => ?_)⟩
      · rw [e1, e2, Bool.true_and, Bool.true_and] at k
        exact ⟨_, rfl, _, rfl, _, _, _, _, _, rfl, pp, bp, hL, S, k⟩
      · rw [e1, e2, Bool.true_and, Bool.false_and] at k
        exact k
    · rw [e1, Bool.false_and, Bool.false_and] at k
      exact ⟨_, rfl, iteF k⟩
theorem ok_grid (F : Fun K "is_grid_right" "is_grid_right" st_is_grid_right f fd) (TP : TxtP mg) : FnOk P w K mg base CX0 1 f fd ["nx", "ny"] spGrid := by
  obtain ⟨t6, m6⟩ := TP.places
  refine F.ok scGrid (fun vs H Q E h => ?_) (fun cdv A outer s H vs Q E hr h => ?_)
  · obtain ⟨x, y, rfl, _⟩ := h
    rfl
  · obtain ⟨x, y, rfl, k⟩ := h
    refine ⟨_, pss_one (ps_ret (pe_and
      (pe_chain op_le op_le pe_int (pv 0) (pe_glob (v := .int 16) rfl m6 ⟨_, rfl⟩))
      (pe_one (pe_chain op_le op_le pe_int (pv 1) (pe_glob (v := .int 16) rfl m6 ⟨_, rfl⟩))))), ?_⟩
    unfold Geo.gridM at k
    refine ⟨_, rfl, _, _, rfl, rfl, _, rfl, iteB (fun e1 => ?_) (fun e1 => ?_)⟩
    · refine ⟨_, _, rfl, rfl, _, rfl, iteB (fun e2 => ?_) (fun e2 => ?_)⟩
      · rw [e1, e2, Bool.true_and, Bool.true_and] at k
        refine ⟨_, rfl, _, _, rfl, rfl, _, rfl, iteB (fun e3 => ?_) (fun e3 => ?_)⟩
        · rw [e3, Bool.true_and] at k
          exact ⟨_, _, rfl, rfl, k⟩
        · rw [e3, Bool.false_and] at k
          exact k
      · rw [e1, e2, Bool.true_and, Bool.false_and] at k
        exact k
    · rw [e1, Bool.false_and, Bool.false_and] at k
      exact ⟨_, rfl, iteF k⟩
theorem ok_gp (F : Fun K "grid_places" "grid_places" st_grid_places f fd) (T : Txt mg) : FnOk P w K mg base CX0 1 f fd ["x", "y", "z", "dx", "dy", "nx", "ny"] (spGP K) := by
  refine F.ok scGP (fun vs H Q E h => ?_) (fun cdv A outer s H vs Q E hr h => ?_)
  · obtain ⟨x, y, z, dx, dy, nx, ny, rfl, _⟩ := h
    rfl
  · obtain ⟨x, y, z, dx, dy, nx, ny, rfl, hg, ⟨bx, by_⟩, k⟩ := h
    have g := grid_of hg
    have g2 := mul16 g
    have big : ∀ {z : Int} {m : Nat}, ib z ≤ m → m ≤ 1000000 → ib z ≤ 1000000 := fun h h' => Nat.le_trans h h'
    refine ⟨_, pss_one (ps_ret (pe_lc (own := [("k", 7)]) rfl scGP.nd (pi_range1 rfl T.range (pa_cons (pe_op op_mulB (pv 5) (pv 6)) pa_nil)) (blkOk_by blkGP)
      (fun _ _ _ _ _ => pg_name (i := 7) scGP.nd rfl (Or.inl rfl)) (fun _ _ _ _ _ => pts_nil)
      (fun _ _ _ _ _ => pe_tup (pa_cons (pe_op op_add (pv 0) (pe_op op_mulB (pe_op op_mod (pv 7) (pv 5)) (pv 3))) (pa_cons (pe_op op_add (pv 1) (pe_op op_mulB (pe_op op_fdiv (pv 7) (pv 5)) (pv 4))) (pa_cons (pv 2) pa_nil)))))), ?_⟩
    refine ⟨_, rfl, _, rfl, _, _, rfl, rfl, ⟨big (bits16 (by trivial) (by trivial)) (by decide), big (bits16 (by trivial) (by trivial)) (by decide)⟩, nx * ny, rfl, by trivial, by trivial, fun D hD => lc_range (fun i H' => Same H H' ∧ ∃ acc, H' D = some (.lst acc) ∧ acc.length = i ∧ ∀ j x', acc[j]? = some x' → PtAt K H' x' (Geo.placeM x y dx dy nx j) ∧ CoAt K H' x' 2 z) ?_ ?_ ?_⟩
    · exact ⟨Same.set hD (Same.refl H), [], upd_same, rfl, fun j x h => by simp at h⟩
    · rintro i H' hi ⟨s1, acc, hacc, hal, hall⟩
      have hi256 : (i : Int) ≤ 256 := by trivial
      have hm : 0 ≤ (0 + (i : Int)) % nx ∧ (0 + (i : Int)) % nx ≤ 256 := by
        have h1 := Int.emod_nonneg (0 + (i : Int)) (show nx ≠ 0 by trivial)
        have h2 := Int.emod_lt_of_pos (0 + (i : Int)) (show 0 < nx by trivial)
        trivial
      have hd : 0 ≤ (0 + (i : Int)) / nx ∧ (0 + (i : Int)) / nx ≤ 256 := by
        have h1 := Int.ediv_nonneg (show 0 ≤ 0 + (i : Int) by trivial) (show 0 ≤ nx by trivial)
        have h2 := Int.ediv_le_self nx (show 0 ≤ 0 + (i : Int) by trivial)
        trivial
      refine ⟨rfl, ?_⟩
      refine ⟨_, rfl, _, rfl, _, rfl, _, _, rfl, rfl, (by trivial), _, rfl, _, _, rfl, rfl, ⟨big (bits16 hm.1 hm.2) (by decide), big bx (by decide)⟩, _, _, rfl, rfl, ?_⟩
      refine ⟨_, rfl, _, rfl, _, rfl, _, _, rfl, rfl, ⟨by trivial, by trivial⟩, _, rfl, _, _, rfl, rfl, ⟨big (bits16 hd.1 hd.2) (by decide), big by_ (by decide)⟩, _, _, rfl, rfl, ?_⟩
      refine ⟨_, rfl, (by show 3 ≤ sizeLine; decide), fun t ht => ?_⟩
      have hDt : D ≠ t := ne_of_none hacc ht
      have e1 : ∀ o, (L2.upd H' t o) D = some (.lst acc) := fun o => by rw [upd_ne hDt]; exact hacc
      refine ⟨acc, e1 _, by rw [hal]; exact Nat.lt_of_lt_of_le (show i < 256 by trivial) (by decide), Same.set hD (Same.upd s1 ht), _, upd_same, by rw [List.length_append, hal]; rfl, fun j x' hx => ?_⟩
      rcases snoc_get hx with ⟨_, hx⟩ | ⟨hj, rfl⟩
      · have := hall j x' hx
        exact ⟨PtAt.set (e1 _) (this.1.mono (Same.upd (Same.refl H') ht)), CoAt.set (e1 _) (this.2.mono (Same.upd (Same.refl H') ht))⟩
      · rw [hal] at hj
        subst hj
        refine ⟨PtAt.set (e1 _) ⟨t, _, rfl, SqT.of upd_same, ?_, ?_⟩, CoAt.set (e1 _) ⟨t, _, rfl, SqT.of upd_same, rfl⟩⟩
        · show some (L2.V.int (x + (0 + (j : Int)) % nx * dx)) = _
          rw [Int.zero_add]; rfl
        · show some (L2.V.int (y + (0 + (j : Int)) / nx * dy)) = _
          rw [Int.zero_add]; rfl
    · rintro H' ⟨s1, acc, hacc, hal, hall⟩
      exact k H' D s1 hD ⟨acc, hacc, hal, hall⟩
theorem ok_bf (F : Fun K "book_fault" "book_fault" st_book_fault f fd) (T : Txt mg) (TB : TxtB mg) : FnOk P w K mg base CX0 1 f fd ["book"] (spBf K) := by
  obtain ⟨t1, m1⟩ := TB.numbers
  obtain ⟨t2, m2⟩ := TB.whole
  refine F.ok scBf (fun vs H Q E h => ?_) (fun cdv A outer s0 H vs Q E hr h => ?_)
  · obtain ⟨v, bs, rfl, _⟩ := h
    rfl
  · obtain ⟨v, bs, rfl, ⟨l, rfl, sl⟩, k⟩ := h
    refine ⟨_, pss_cons (ps_if (pt_cmpR op_ne (pe_callB call_len_seq (by rfl) T.len PySem.boot_len (pa_cons (pv 0) pa_nil)) (pe_glob (v := .int 36) rfl m1 ⟨_, rfl⟩) (nomark _)) (pss_one (ps_ret (pe_callB call_len_seq (by rfl) T.len PySem.boot_len (pa_cons (pv 0) pa_nil)))) pss_nil)
      (pss_cons (ps_for PassesOwn.never rfl (pi_enum rfl T.enum (pa_cons (pv 0) pa_nil)) (pg_tup rfl (pgs_cons (pg_name (i := 1) scBf.nd rfl (Or.inl rfl)) (pgs_cons (pg_name (i := 2) scBf.nd rfl (Or.inl rfl)) pgs_nil)))
        (pss_one (ps_if (pt_cmpR op_gt (pv 2) (pe_glob (v := .int 32768) rfl m2 ⟨_, rfl⟩) (nomark _)) (pss_one (ps_ret (pv 1))) pss_nil)))
      (pss_one (ps_ret pe_non))), ?_⟩
    have hl : (bs.map L2.V.int).length = bs.length := List.length_map ..
    refine ⟨_, rfl, l, _, rfl, .inl sl, rfl, _, rfl, ?_⟩
    rw [hl]
    by_cases h36 : bs.length = 36
    · rw [decide_eq_true (show L2.V.int (bs.length : Int) = L2.V.int 36 by rw [h36]; rfl)]
      refine iteF ?_
      have hB : bookM bs = (List.range bs.length).find? (fun i => decide (32768 < bs.getD i 0)) := by unfold bookM; rw [if_pos h36]
      rw [hB] at k
      refine ⟨_, rfl, l, _, rfl, sl, for_enum (K := K) (a := l) (xs := bs.map L2.V.int) (fun i σ H' => Same H H' ∧ (∃ x y, σ = [some (.ref l), x, y]) ∧ ∀ j, j < i → decide (32768 < bs.getD j 0) = false) ⟨Same.refl _, ⟨_, _, rfl⟩, fun j hj => by trivial⟩ (fun i σ H' _ ⟨e, _⟩ => e.seq sl) ?_ ?_⟩
      · rintro i x σ H' TT hi ⟨e1, ⟨y1, y2, rfl⟩, hb⟩ hT
        have hin : i < bs.length := by have := (List.getElem?_eq_some_iff.1 hi).1; rwa [hl] at this
        rw [room_at hin] at hi
        cases hi
        have e2 := Same.upd e1 hT (o := .tup [.int (i : Nat), .int (bs.getD i 0)])
        refine ⟨TT, _, rfl, SqT.of upd_same, rfl, _, _, rfl, _, _, rfl, rfl, ?_⟩
        refine ⟨_, rfl, _, _, rfl, rfl, _, rfl, iteB (fun e => ?_) (fun e => ?_)⟩
        · refine ⟨_, rfl, ?_⟩
          have kk := k _ e2
          rw [find_at (p := fun i => decide (32768 < bs.getD i 0)) hin e hb] at kk
          exact kk
        · exact ⟨e2, ⟨_, _, rfl⟩, upto hb e⟩
      · rintro σ H' ⟨e1, ⟨y1, y2, rfl⟩, hb⟩
        rw [hl] at hb
        have kk := k _ e1
        rw [find_no (p := fun i => decide (32768 < bs.getD i 0)) hb] at kk
        exact kk
    · rw [decide_eq_false (show ¬ L2.V.int (bs.length : Int) = L2.V.int 36 by intro q; have := L2.V.int.inj q; trivial)]
      refine iteT ?_
      refine ⟨_, rfl, l, _, rfl, .inl sl, ?_⟩
      have hB : bookM bs = some bs.length := by unfold bookM; rw [if_neg h36]
      have kk := k _ (Same.refl _)
      rw [hB] at kk
      rw [hl]
      exact kk
theorem ok_re (F : Fun K "refusal" "refusal" st_refusal f fd) (C1 : Cal P w K mg base 6 "room_fault" ["room"] (spRF K)) (C2 : Cal P w K mg base 1 "book_fault" ["book"] (spBf K))
    (C3 : Cal P w K mg base 2 "lines_of" ["room"] (spLines K)) (C4 : Cal P w K mg base 4 "is_inside" ["p", "height", "lines"] (spIn K)) : FnOk P w K mg base CX0 7 f fd ["s", "is_right", "room", "book"] (spRe K) := by
  obtain ⟨f1, fd1, G1, m1, k1, b1⟩ := C1.ex
  obtain ⟨f2, fd2, G2, m2, k2, b2⟩ := C2.ex
  obtain ⟨f3, fd3, G3, m3, k3, b3⟩ := C3.ex
  obtain ⟨f4, fd4, G4, m4, k4, b4⟩ := C4.ex
  refine F.ok scRe (fun vs H Q E h => ?_) (fun cdv A outer s0 H vs Q E hr h => ?_)
  · obtain ⟨v1, v3, v4, o, right, ns, bk, rfl, _⟩ := h
    rfl
  · obtain ⟨v1, v3, v4, o, right, ns, bk, rfl, hSa, hR, hBk, k⟩ := h
    have hr1 : Room 1 _ := hr.mono (by decide)
    have hr2 : Room 2 _ := hr.mono (by decide)
    have hr4 : Room 4 _ := hr.mono (by decide)
    refine ⟨_, pss_cons (ps_set (i := 4) scRe.nd rfl (Or.inl rfl) (pe_call G1 hr rfl m1 k1 b1 .nil pass0 (pa_cons (pv 2) pa_nil)))
      (pss_cons (ps_if (pt_cmpR op_notN (pv 4) pe_non (nomark _)) (pss_one (ps_ret (pe_lst (pa_cons (pe_un un_neg pe_int) (pa_cons (pe_ix ix_tup (pv 4) pe_int (fun _ _ => rfl)) (pa_cons (pe_ix ix_tup (pv 4) pe_int (fun _ _ => rfl)) pa_nil)))))) pss_nil)
      (pss_cons (ps_if (pt_cmpR op_notN (pv 3) pe_non (nomark _)) (pss_cons (ps_set (i := 5) scRe.nd rfl (Or.inl rfl) (pe_call G2 hr1 rfl m2 k2 b2 .nil pass0 (pa_cons (pv 3) pa_nil)))
          (pss_one (ps_if (pt_cmpR op_notN (pv 5) pe_non (nomark _)) (pss_one (ps_ret (pe_lst (pa_cons (pe_un un_neg pe_int) (pa_cons (pv 5) pa_nil))))) pss_nil))) pss_nil)
      (pss_cons (ps_if (pt_not (pt_val (pv 1))) (pss_one (ps_ret (pe_lst (pa_cons (pe_un un_neg pe_int) pa_nil)))) pss_nil)
      (pss_cons (ps_if (PW.pt (pw_and (pt_cmpR op_notN (pv 0) pe_non (nomark _)) (pw_and1 (pt_not (pt_val (pe_call G4 hr4 rfl m4 k4 b4 .nil pass0 (pa_cons (pv 0) (pa_cons (pe_ix ix_list (pv 2) pe_int (fun _ _ => rfl)) (pa_cons (pe_call G3 hr2 rfl m3 k3 b3 .nil pass0 (pa_cons (pv 2) pa_nil)) pa_nil))))))))) (pss_one (ps_ret (pe_lst (pa_cons (pe_un un_neg pe_int) pa_nil)))) pss_nil)
      (pss_one (ps_ret pe_non)))))), ?_⟩
    refine ⟨_, rfl, v3, ns, rfl, hR, fun H1 xf e1 hF => ?_⟩
    refine ⟨_, rfl, rfl, _, rfl, ?_⟩
    unfold refO at k
    cases ef : Geo.roomFault ns with
    | some g =>
      rw [ef] at hF k
      obtain ⟨t, rfl, st⟩ := hF
      rw [decide_eq_false (show ¬ L2.V.ref t = L2.V.non by intro q; cases q)]
      refine iteT ?_
      refine ⟨_, rfl, _, rfl, _, _, _, _, rfl, rfl, st, at0 rfl, _, rfl, _, _, _, _, rfl, rfl, st, at1 rfl, (by show 3 ≤ sizeLine; decide), fun l hl => ?_⟩
      exact k _ _ (Same.upd e1 hl) ⟨l, rfl, upd_same⟩
    | none =>
      rw [ef] at hF k
      have hF' : xf = .non := hF
      subst hF'
      rw [decide_eq_true (show L2.V.non = L2.V.non from rfl)]
      refine iteF ?_
      obtain ⟨S, hn, h3, h64, _, _⟩ := small_room ef
      have rest : ∀ (H2 : Hp) (y5 : Option L2.V), Same H H2 → bk.bind bookM = none → (tSeq (tIfS (tNot (tB (tVar 1))) (tRet (tLst (tCons (tUn (rU fun i => .int (-i)) (tC (.int 1))) tNil))) tNext)
          (tSeq (tIfS (tAnd (tTest (tOp (fun x y H Q => y = L2.V.non ∧ Q (.bl (!decide (x = L2.V.non))) H) (tVar 0) (tC .non))) (tNot (tB (tCall (spIn K) [] E0 (tCons (tVar 0) (tCons (tOp (rIxL K) (tVar 2) (tC (.int 0))) (tCons (tCall (spLines K) [] E0 (tCons (tVar 2) tNil)) tNil))))))) (tRet (tLst (tCons (tUn (rU fun i => .int (-i)) (tC (.int 3))) tNil))) tNext) (tRet (tC .non))))
          { nx := fun _ H' => Q .non H', rt := Q } [some v1, some (.bl right), some v3, some v4, some .non, y5] H2 := by
        intro H2 y5 e2 hb
        simp only [hb] at k
        refine ⟨_, rfl, _, rfl, iteB (fun er => ?_) (fun er => ?_)⟩
        · rw [Bool.not_eq_true'] at er
          simp only [if_pos er] at k
          exact ⟨_, rfl, (by show 1 ≤ sizeLine; decide), fun l hl => k _ _ (Same.upd e2 hl) ⟨l, rfl, upd_same⟩⟩
        · rw [Bool.not_eq_false'] at er
          simp only [if_neg (show ¬ right = false by rw [er]; simp)] at k
          obtain ⟨lr, rfl, sr⟩ := hR.mono e2
          refine ⟨_, rfl, rfl, _, rfl, ?_⟩
          cases o with
          | none =>
            have hv : v1 = .non := hSa
            subst hv
            rw [decide_eq_true (show L2.V.non = L2.V.non from rfl)]
            refine iteF ?_
            exact iteF (k _ _ e2 rfl)
          | some q =>
            have hSa2 := SAt.mono e2 hSa
            obtain ⟨p1, p2, p3⟩ := hSa2
            have hne : v1 ≠ .non := by
              obtain ⟨a, xs, ea, _⟩ := p1
              rw [ea]; intro q; cases q
            rw [decide_eq_false hne]
            refine iteT ?_
            refine ⟨_, rfl, _, rfl, _, _, _, _, rfl, rfl, sr, at0 (room_at (by trivial)), _, rfl, _, ns, Geo.cn ns, rfl, ⟨lr, rfl, sr⟩, hn, by trivial, h64, fun H3 xl e3 hL => ?_⟩
            refine ⟨_, _, _, _, _, _, _, rfl, p1.mono e3, p2.mono e3, p3, hL, S, _, rfl, iteB (fun ei => ?_) (fun ei => ?_)⟩
            · rw [Bool.not_eq_true'] at ei
              have ei' : insO ns (some q) = false := ei
              simp only [if_pos ei'] at k
              exact ⟨_, rfl, (by show 1 ≤ sizeLine; decide), fun l hl => k _ _ (Same.upd (Same.trans e2 e3) hl) ⟨l, rfl, upd_same⟩⟩
            · rw [Bool.not_eq_false'] at ei
              have ei' : insO ns (some q) = true := ei
              simp only [if_neg (show ¬ insO ns (some q) = false by rw [ei']; simp)] at k
              exact k _ _ (Same.trans e2 e3) rfl
      cases bk with
      | none =>
        have hv : v4 = .non := hBk
        subst hv
        refine ⟨_, rfl, rfl, _, rfl, ?_⟩
        rw [decide_eq_true (show L2.V.non = L2.V.non from rfl)]
        refine iteF ?_
        exact rest H1 _ e1 rfl
      | some bs =>
        obtain ⟨lb, rfl, sb⟩ := RoomAt.mono e1 hBk
        refine ⟨_, rfl, rfl, _, rfl, ?_⟩
        rw [decide_eq_false (show ¬ L2.V.ref lb = L2.V.non by intro q; cases q)]
        refine iteT ?_
        refine ⟨_, rfl, _, bs, rfl, ⟨lb, rfl, sb⟩, fun H2 e2 => ?_⟩
        have e12 := Same.trans e1 e2
        refine ⟨_, rfl, rfl, _, rfl, ?_⟩
        cases eb : bookM bs with
        | some i =>
          have hb : (some bs : Option (List Int)).bind bookM = some i := eb
          simp only [hb] at k
          rw [oV_some]
          refine iteT ?_
          exact ⟨_, rfl, _, rfl, (by show 2 ≤ sizeLine; decide), fun l hl => k _ _ (Same.upd e12 hl) ⟨l, rfl, upd_same⟩⟩
        | none =>
          rw [oV_none]
          refine iteF ?_
          exact rest H2 _ e12 eb
theorem ok_wp (F : Fun K "whole_point" "whole_point" st_whole_point f fd) : FnOk P w K mg base CX0 1 f fd ["p"] (spWP K) := by
  refine F.ok scWP (fun vs H Q E h => ?_) (fun cdv A outer s H vs Q E hr h => ?_)
  · obtain ⟨v, p, z, rfl, _⟩ := h
    rfl
  · obtain ⟨v, p, z, rfl, ⟨a, xs, rfl, sa, a0, a1⟩, ⟨b, ys, e, sb, b2⟩, k⟩ := h
    cases e
    refine ⟨_, pss_one (ps_ret (pe_tup (pa_cons (pe_ix ix_tup (pv 0) pe_int (fun _ _ => rfl)) (pa_cons (pe_ix ix_tup (pv 0) pe_int (fun _ _ => rfl)) (pa_cons (pe_ix ix_tup (pv 0) pe_int (fun _ _ => rfl)) (pa_cons pe_int pa_nil)))))), ?_⟩
    exact ⟨_, rfl, _, _, _, _, rfl, rfl, sa, at0 a0, _, rfl, _, _, _, _, rfl, rfl, sa, at1 a1, _, rfl, _, _, _, _, rfl, rfl, sb, at2 b2, (by show 4 ≤ sizeLine; decide), fun t ht => k t ht⟩
theorem ok_sg (F : Fun K "sign" "sign" st_sign f fd) : FnOk P w K mg base CX0 1 f fd ["number"] spSg := by
  refine F.ok scSg (fun vs H Q E h => ?_) (fun cdv A outer s H vs Q E hr h => ?_)
  · obtain ⟨z, rfl, _⟩ := h
    rfl
  · obtain ⟨z, rfl, k⟩ := h
    refine ⟨_, pss_cons (ps_if (pt_cmpR op_gt (pv 0) pe_int (nomark _)) (pss_one (ps_ret pe_int)) pss_nil) (pss_one (ps_ret (pe_ifExp (pt_cmpR op_lt (pv 0) pe_int (nomark _)) (pe_un un_neg pe_int) pe_int))), ?_⟩
    unfold Geo.sgn at k
    refine ⟨_, rfl, _, _, rfl, rfl, _, rfl, iteB (fun e => ?_) (fun e => ?_)⟩
    · rw [decide_eq_true_eq] at e
      rw [if_pos e] at k
      exact k
    · rw [decide_eq_false_iff_not] at e
      rw [if_neg e] at k
      refine ⟨_, rfl, _, _, rfl, rfl, _, rfl, iteB (fun e2 => ?_) (fun e2 => ?_)⟩
      · rw [decide_eq_true_eq] at e2
        rw [if_pos e2] at k
        exact ⟨_, rfl, k⟩
      · rw [decide_eq_false_iff_not] at e2
        rw [if_neg e2] at k
        exact k
theorem ok_po (F : Fun K "plane_of_line" "plane_of_line" st_plane_of_line f fd) (CS : Cal P w K mg base 1 "sign" ["number"] spSg) : FnOk P w K mg base CX0 2 f fd ["line"] (spPo K) := by
  obtain ⟨fS, fdS, GS, mS, kS, bS⟩ := CS.ex
  refine F.ok scPo (fun vs H Q E h => ?_) (fun cdv A outer s H vs Q E hr h => ?_)
  · obtain ⟨v, a, b, rfl, _⟩ := h
    rfl
  · obtain ⟨v, a, b, rfl, ⟨l, va, vb, rfl, sl, ⟨pa, xa, rfl, sa, a0, a1⟩, ⟨pb, xb, rfl, sb, b0, b1⟩⟩, k⟩ := h
    refine ⟨_, pss_cons (ps_set (i := 1) scPo.nd rfl (Or.inl rfl) (pe_ix ix_tup (pv 0) pe_int (fun _ _ => rfl)))
      (pss_cons (ps_set (i := 2) scPo.nd rfl (Or.inl rfl) (pe_call GS hr rfl mS kS bS .nil pass0 (pa_cons (pe_op op_sub (pe_ix ix_tup (pe_ix ix_tup (pv 0) pe_int (fun _ _ => rfl)) pe_int (fun _ _ => rfl)) (pe_ix ix_tup (pv 1) pe_int (fun _ _ => rfl))) pa_nil)))
      (pss_cons (ps_set (i := 3) scPo.nd rfl (Or.inl rfl) (pe_call GS hr rfl mS kS bS .nil pass0 (pa_cons (pe_op op_sub (pe_ix ix_tup (pe_ix ix_tup (pv 0) pe_int (fun _ _ => rfl)) pe_int (fun _ _ => rfl)) (pe_ix ix_tup (pv 1) pe_int (fun _ _ => rfl))) pa_nil)))
      (pss_one (ps_ret (pe_tup (pa_cons (pe_un un_neg (pv 3)) (pa_cons (pv 2) (pa_cons pe_int (pa_cons (pe_op op_sub (pe_op op_mul (pv 3) (pe_ix ix_tup (pv 1) pe_int (fun _ _ => rfl))) (pe_op op_mul (pv 2) (pe_ix ix_tup (pv 1) pe_int (fun _ _ => rfl)))) pa_nil))))))))), ?_⟩
    refine ⟨_, rfl, _, _, _, _, rfl, rfl, sl, at0 rfl, ?_⟩
    refine ⟨_, rfl, _, _, _, _, rfl, rfl, sl, at1 rfl, _, _, _, _, rfl, rfl, sb, at0 b0, _, rfl, _, _, _, _, rfl, rfl, sa, at0 a0, _, _, rfl, rfl, _, rfl, ?_⟩
    refine ⟨_, rfl, _, _, _, _, rfl, rfl, sl, at1 rfl, _, _, _, _, rfl, rfl, sb, at1 b1, _, rfl, _, _, _, _, rfl, rfl, sa, at1 a1, _, _, rfl, rfl, _, rfl, ?_⟩
    refine ⟨_, rfl, _, rfl, _, rfl, _, rfl, _, rfl, _, _, _, _, rfl, rfl, sa, at0 a0, _, _, rfl, rfl, .inl (sgn_small _), ?_⟩
    refine ⟨_, rfl, _, rfl, _, _, _, _, rfl, rfl, sa, at1 a1, _, _, rfl, rfl, .inl (sgn_small _), _, _, rfl, rfl, (by show 4 ≤ sizeLine; decide), fun t ht => ?_⟩
    exact k t ht
theorem ok_dp (F : Fun K "depth" "depth" st_depth f fd) : FnOk P w K mg base CX0 1 f fd ["plane", "p"] (spDp K) := by
  refine F.ok scDp (fun vs H Q E h => ?_) (fun cdv A outer s H vs Q E hr h => ?_)
  · obtain ⟨v1, v2, l, p, rfl, _⟩ := h
    rfl
  · obtain ⟨v1, v2, l, p, rfl, ⟨t1, rfl, s1⟩, ⟨t2, rfl, s2⟩, bl, bp, k⟩ := h
    refine ⟨_, pss_one (ps_ret (pe_op op_add (pe_op op_add (pe_op op_add (pe_op op_mulB (pe_ix ix_tup (pv 0) pe_int (fun _ _ => rfl)) (pe_ix ix_tup (pv 1) pe_int (fun _ _ => rfl))) (pe_op op_mulB (pe_ix ix_tup (pv 0) pe_int (fun _ _ => rfl)) (pe_ix ix_tup (pv 1) pe_int (fun _ _ => rfl)))) (pe_op op_mulB (pe_ix ix_tup (pv 0) pe_int (fun _ _ => rfl)) (pe_ix ix_tup (pv 1) pe_int (fun _ _ => rfl)))) (pe_op op_mulB (pe_ix ix_tup (pv 0) pe_int (fun _ _ => rfl)) (pe_ix ix_tup (pv 1) pe_int (fun _ _ => rfl))))), ?_⟩
    refine ⟨_, rfl, _, _, _, _, rfl, rfl, s1, at0 rfl, _, rfl, _, _, _, _, rfl, rfl, s2, at0 rfl, _, _, rfl, rfl, ⟨le6 bl.a (by decide), bp.x⟩, ?_⟩
    refine ⟨_, rfl, _, _, _, _, rfl, rfl, s1, at1 rfl, _, rfl, _, _, _, _, rfl, rfl, s2, at1 rfl, _, _, rfl, rfl, ⟨le6 bl.b (by decide), bp.y⟩, _, _, rfl, rfl, ?_⟩
    refine ⟨_, rfl, _, _, _, _, rfl, rfl, s1, at2 rfl, _, rfl, _, _, _, _, rfl, rfl, s2, at2 rfl, _, _, rfl, rfl, ⟨le6 bl.c (by decide), bp.z⟩, _, _, rfl, rfl, ?_⟩
    refine ⟨_, rfl, _, _, _, _, rfl, rfl, s1, at3 rfl, _, rfl, _, _, _, _, rfl, rfl, s2, at3 rfl, _, _, rfl, rfl, ⟨le6 bl.d (by decide), bp.w⟩, _, _, rfl, rfl, ?_⟩
    exact k
theorem ok_mi (F : Fun K "mirrored" "mirrored" st_mirrored f fd) (CD : Cal P w K mg base 1 "depth" ["plane", "p"] (spDp K)) : FnOk P w K mg base CX0 2 f fd ["plane", "p"] (spMi K) := by
  obtain ⟨fD, fdD, GD, mD, kD, bD⟩ := CD.ex
  refine F.ok scMi (fun vs H Q E h => ?_) (fun cdv A outer s H vs Q E hr h => ?_)
  · obtain ⟨v1, v2, l, p, rfl, _⟩ := h
    rfl
  · obtain ⟨v1, v2, l, p, rfl, ⟨t1, rfl, s1⟩, ⟨t2, rfl, s2⟩, bl, bp, k⟩ := h
    refine ⟨_, pss_cons (ps_set (i := 2) scMi.nd rfl (Or.inl rfl) (pe_op op_fdiv (pe_op op_mulB pe_int (pe_call GD hr rfl mD kD bD .nil pass0 (pa_cons (pv 0) (pa_cons (pv 1) pa_nil))))
        (pe_op op_add (pe_op op_add (pe_op op_powB (pe_ix ix_tup (pv 0) pe_int (fun _ _ => rfl)) pe_int) (pe_op op_powB (pe_ix ix_tup (pv 0) pe_int (fun _ _ => rfl)) pe_int)) (pe_op op_powB (pe_ix ix_tup (pv 0) pe_int (fun _ _ => rfl)) pe_int))))
      (pss_one (ps_ret (pe_tup (pa_cons (pe_op op_sub (pe_ix ix_tup (pv 1) pe_int (fun _ _ => rfl)) (pe_op op_mulB (pv 2) (pe_ix ix_tup (pv 0) pe_int (fun _ _ => rfl)))) (pa_cons (pe_op op_sub (pe_ix ix_tup (pv 1) pe_int (fun _ _ => rfl)) (pe_op op_mulB (pv 2) (pe_ix ix_tup (pv 0) pe_int (fun _ _ => rfl))))
        (pa_cons (pe_op op_sub (pe_ix ix_tup (pv 1) pe_int (fun _ _ => rfl)) (pe_op op_mulB (pv 2) (pe_ix ix_tup (pv 0) pe_int (fun _ _ => rfl)))) (pa_cons (pe_ix ix_tup (pv 1) pe_int (fun _ _ => rfl)) pa_nil))))))), ?_⟩
    have db := dep_bits bl bp
    have d1 : ib (2 * Geo.dep l p) ≤ 2 + (1000 + 17) := intBits_mul_le two_bits db
    have hn : (0 : Int) < Geo.nsq l ∧ Geo.nsq l < 1073741824 := by rcases bl.n with h | h <;> rw [h] <;> decide
    have d2 : ib (2 * Geo.dep l p / Geo.nsq l) ≤ 2000 := by
      rcases bl.n with h | h <;> rw [h]
      · rw [Int.ediv_one]; exact Nat.le_trans d1 (by decide)
      · have : 2 * Geo.dep l p / 2 = Geo.dep l p := by trivial
        rw [this]; exact Nat.le_trans db (by decide)
    refine ⟨_, rfl, _, rfl, _, _, _, _, rfl, ⟨t1, rfl, s1⟩, ⟨t2, rfl, s2⟩, bl, bp.mono (by decide), _, _, rfl, rfl, ⟨le6 two_bits (by decide), le6 db (by decide)⟩, ?_⟩
    refine ⟨_, rfl, _, _, _, _, rfl, rfl, s1, at0 rfl, _, _, rfl, rfl, pow_ok bl.a, _, rfl, _, _, _, _, rfl, rfl, s1, at1 rfl, _, _, rfl, rfl, pow_ok bl.b, _, _, rfl, rfl, _, rfl, _, _, _, _, rfl, rfl, s1, at2 rfl, _, _, rfl, rfl, pow_ok bl.c, _, _, rfl, rfl, _, _, rfl, rfl, hn, ?_⟩
    refine ⟨_, rfl, _, _, _, _, rfl, rfl, s2, at0 rfl, _, rfl, _, rfl, _, _, _, _, rfl, rfl, s1, at0 rfl, _, _, rfl, rfl, ⟨le6 d2 (by decide), le6 bl.a (by decide)⟩, _, _, rfl, rfl, ?_⟩
    refine ⟨_, rfl, _, _, _, _, rfl, rfl, s2, at1 rfl, _, rfl, _, rfl, _, _, _, _, rfl, rfl, s1, at1 rfl, _, _, rfl, rfl, ⟨le6 d2 (by decide), le6 bl.b (by decide)⟩, _, _, rfl, rfl, ?_⟩
    refine ⟨_, rfl, _, _, _, _, rfl, rfl, s2, at2 rfl, _, rfl, _, rfl, _, _, _, _, rfl, rfl, s1, at2 rfl, _, _, rfl, rfl, ⟨le6 d2 (by decide), le6 bl.c (by decide)⟩, _, _, rfl, rfl, ?_⟩
    exact ⟨_, rfl, _, _, _, _, rfl, rfl, s2, at3 rfl, (by show 4 ≤ sizeLine; decide), fun t ht => k t ht⟩
theorem ok_cs (F : Fun K "crossing" "crossing" st_crossing f fd) (TW : TxtW mg) (CD : Cal P w K mg base 1 "depth" ["plane", "p"] (spDp K)) : FnOk P w K mg base CX0 2 f fd ["plane", "p", "q"] (spCs K) := by
  obtain ⟨fD, fdD, GD, mD, kD, bD⟩ := CD.ex
  refine F.ok scCs (fun vs H Q E h => ?_) (fun cdv A outer s H vs Q E hr h => ?_)
  · obtain ⟨v1, v2, v3, l, p, q, rfl, _⟩ := h
    rfl
  · obtain ⟨v1, v2, v3, l, p, q, rfl, ⟨t1, rfl, s1⟩, ⟨t2, rfl, s2⟩, ⟨t3, rfl, s3⟩, bl, bp, bq, k⟩ := h
    refine ⟨_, pss_cons (ps_set (i := 3) scCs.nd rfl (Or.inr rfl) (pe_un un_neg (pe_call GD hr rfl mD kD bD .nil pass0 (pa_cons (pv 0) (pa_cons (pv 1) pa_nil)))))
      (pss_cons (ps_set (i := 4) scCs.nd rfl (Or.inr rfl) (pe_call GD hr rfl mD kD bD .nil pass0 (pa_cons (pv 0) (pa_cons (pv 2) pa_nil))))
      (pss_one (ps_ret (pe_callTy call_tuple_of (by rfl) TW.tuple boot_tupleT (pa_cons
        (pe_lc (own := [("f", 5), ("g", 6)]) rfl scCs.nd (pi_tzip rfl TW.zip (pa_cons (pv 1) (pa_cons (pv 2) pa_nil))) (blkOk_by blkCs)
          (fun _ _ _ _ _ => pgt (K := K) (n := 2) rfl rfl (pgs_cons (pg_name (i := 5) scCs.nd rfl (Or.inl rfl)) (pgs_cons (pg_name (i := 6) scCs.nd rfl (Or.inl rfl)) pgs_nil)))
          (fun _ _ _ _ _ => pts_nil)
          (fun _ _ _ _ _ => pe_op op_add (pe_op op_mulB (pv 4) (pv 5)) (pe_op op_mulB (pv 3) (pv 6)))) pa_nil))))), ?_⟩
    have d1 := dep_bits bl bp
    have d2 := dep_bits bl bq
    have d1' : ib (-Geo.dep l p) ≤ 400000 + 17 := intBits_neg_le d1
    refine ⟨_, rfl, _, rfl, _, _, _, _, rfl, ⟨t1, rfl, s1⟩, ⟨t2, rfl, s2⟩, bl, bp.mono (by decide), _, rfl, ?_⟩
    refine ⟨_, rfl, _, rfl, _, _, _, _, rfl, ⟨t1, rfl, s1⟩, ⟨t3, rfl, s3⟩, bl, bq.mono (by decide), ?_⟩
    refine ⟨_, rfl, _, rfl, t2, t3, _, _, rfl, s2, s3, fun D hD => lc_tz (K := K) (a := t2) (b := t3) (xs := [.int p.x, .int p.y, .int p.z, .int p.w]) (ys := [.int q.x, .int q.y, .int q.z, .int q.w]) (n := 4)
      (fun i H' => Same H H' ∧ H' D = some (.lst (((List.range i).map (crsN (Geo.dep l q) (-Geo.dep l p) p q)).map L2.V.int))) ?_ rfl rfl (fun i H' _ ⟨e1, _⟩ => ⟨Same.tup e1 s2, Same.tup e1 s3⟩) ?_ ?_⟩
    · exact ⟨Same.set hD (Same.refl H), upd_same⟩
    · rintro i x y H' T hx hy ⟨e1, hacc⟩ hT
      obtain ⟨a, b, rfl, rfl, ba, bb, hc⟩ := p4_pair bp bq hx hy
      have hi : i < 4 := (List.getElem?_eq_some_iff.1 hx).1
      have hDT : D ≠ T := ne_of_none hacc hT
      refine ⟨T, _, rfl, SqT.of upd_same, rfl, _, _, rfl, _, _, rfl, rfl, rfl, ?_⟩
      refine ⟨_, rfl, _, rfl, _, _, rfl, rfl, ⟨le6 d2 (by decide), le6 ba (by decide)⟩, _, rfl, _, rfl, _, _, rfl, rfl, ⟨le6 d1' (by decide), le6 bb (by decide)⟩, _, _, rfl, rfl, ?_⟩
      refine ⟨_, (by rw [upd_ne hDT]; exact hacc), ?_, Same.set hD (Same.upd e1 hT), ?_⟩
      · rw [List.length_map, List.length_map, List.length_range]
        exact Nat.lt_of_lt_of_le hi (by decide)
      · rw [upd_same, List.range_succ, List.map_append, List.map_append]
        simp only [List.map_cons, List.map_nil, hc]
    · rintro H' ⟨e1, hacc⟩
      exact ⟨D, _, rfl, .inl ⟨SqL.of hacc, fun t ht => k _ _ (Same.upd e1 ht) ⟨t, rfl, SqT.of upd_same⟩⟩⟩
theorem ok_wa (F : Fun K "walls_of" "walls_of" st_walls_of f fd) (CL : Cal P w K mg base 2 "lines_of" ["room"] (spLines K)) (CP : Cal P w K mg base 2 "plane_of_line" ["line"] (spPo K)) : FnOk P w K mg base CX0 3 f fd ["room"] (spWa K) := by
  obtain ⟨fL, fdL, GL, mL, kL, bL⟩ := CL.ex
  obtain ⟨fP, fdP, GP, mP, kP, bP⟩ := CP.ex
  refine F.ok scWa (fun vs H Q E h => ?_) (fun cdv A outer s H vs Q E hr h => ?_)
  · obtain ⟨v, ns, n, rfl, _⟩ := h
    rfl
  · obtain ⟨v, ns, n, rfl, hR, hn, h1, h64, k⟩ := h
    refine ⟨_, pss_cons (ps_setLc (i := 1) (own := [("line", 2)]) rfl scWa.nd rfl rfl (sw_true rfl rfl rfl (by decide +kernel)) (pi_list (pe_call GL hr rfl mL kL bL .nil pass0 (pa_cons (pv 0) pa_nil))) (blkOk_by blkWa)
        (fun _ _ _ _ _ => pg_name (i := 2) scWa.nd rfl (Or.inl rfl)) (fun _ _ _ _ _ => pts_nil)
        (fun _ _ _ _ _ => pe_tup (pa_cons (pe_call GP hr rfl mP kP bP .nil pass0 (pa_cons (pv 2) pa_nil)) (pa_cons (pv 2) pa_nil))))
      (pss_one (ps_ret (pe_op op_cat (pv 1) (pe_lst (pa_cons (pe_tup (pa_cons (pe_tup (pa_cons pe_int (pa_cons pe_int (pa_cons pe_int (pa_cons pe_int pa_nil))))) (pa_cons pe_non pa_nil)))
        (pa_cons (pe_tup (pa_cons (pe_tup (pa_cons pe_int (pa_cons pe_int (pa_cons (pe_un un_neg pe_int) (pa_cons (pe_ix ix_list (pv 0) pe_int (fun _ _ => rfl)) pa_nil))))) (pa_cons pe_non pa_nil))) pa_nil)))))), ?_⟩
    obtain ⟨l0, rfl, sl0⟩ := hR
    refine ⟨_, rfl, _, ns, n, rfl, ⟨l0, rfl, sl0⟩, hn, h1, h64, fun H1 xl e1 hL => ?_⟩
    obtain ⟨l, xs, rfl, sl, hl, hx⟩ := hL
    refine ⟨l, rfl, ⟨_, sl⟩, fun D hD => lc_list (K := K) (a := l) (xs := xs) (fun i H' => Same H1 H' ∧ ∃ acc, H' D = some (.lst acc) ∧ acc.length = i ∧ ∀ j x, acc[j]? = some x → WallAt K H' x n (Geo.cu ns) (ns.getD 0 0) j) ?_ (fun i H' _ ⟨e2, _⟩ => e2.seq sl) ?_ ?_⟩
    · exact ⟨Same.set hD (Same.refl H1), [], upd_same, rfl, fun j x h => by simp at h⟩
    · rintro i x H' hi ⟨e2, acc, hacc, hal, hall⟩
      have hin : i < n := by rw [← hl]; exact (List.getElem?_eq_some_iff.1 hi).1
      have hline := (hx i x hi).mono e2
      refine ⟨rfl, ?_⟩
      refine ⟨_, rfl, _, _, _, rfl, hline, fun t ht => ?_⟩
      refine ⟨_, rfl, (by show 2 ≤ sizeLine; decide), fun t2 ht2 => ?_⟩
      have d1 : D ≠ t := ne_of_none hacc ht
      have g1 : ∀ o, (L2.upd H' t o) D = some (.lst acc) := fun o => by rw [upd_ne d1]; exact hacc
      have d2 : D ≠ t2 := ne_of_none (g1 _) ht2
      have g2 : ∀ o o2, (L2.upd (L2.upd H' t o) t2 o2) D = some (.lst acc) := fun o o2 => by rw [upd_ne d2]; exact g1 o
      have sm : ∀ o o2, (L2.upd H' t o) t2 = none → Same H' (L2.upd (L2.upd H' t o) t2 o2) := fun o o2 z => Same.upd (Same.upd (Same.refl H') ht) z
      refine ⟨acc, g2 _ _, by rw [hal]; exact Nat.lt_of_lt_of_le (show i < 64 by trivial) (by decide), Same.set hD (Same.trans e2 (sm _ _ ht2)), _, upd_same, by rw [List.length_append, hal]; rfl, fun j y hy => ?_⟩
      refine WallAt.set (g2 _ _) ?_
      rcases snoc_get hy with ⟨_, hy⟩ | ⟨hj, rfl⟩
      · exact (hall j y hy).mono (sm _ _ ht2)
      · rw [hal] at hj
        subst hj
        refine ⟨t2, _, _, rfl, SqT.of upd_same, ⟨t, rfl, ?_⟩, fun _ => hline.mono (sm _ _ ht2), fun z => absurd z (by trivial)⟩
        have e : Geo.planeM n (Geo.cu ns) (ns.getD 0 0) j = Geo.planeL (Geo.cu ns j) (Geo.cu ns (j + 1)) := by unfold Geo.planeM; rw [if_pos hin]
        rw [e]
        refine SqT.of ?_
        rw [upd_ne (ne_of_none (show (L2.upd H' t _) t = some _ from upd_same) ht2)]
        exact upd_same
    · rintro H' ⟨e2, acc, hacc, hal, hall⟩
      refine ⟨_, rfl, (by show 4 ≤ sizeLine; decide), fun p1 hp1 => ⟨(by show 2 ≤ sizeLine; decide), fun p2 hp2 => ?_⟩⟩
      have en : ∀ {H2 : Hp}, Same H H2 → SqL K H2 l0 (ns.map L2.V.int) := fun e => e.seq sl0
      have f1 : Same H' (L2.upd H' p1 (.tup [.int 0, .int 0, .int 1, .int 0])) := Same.upd (Same.refl H') hp1
      have f2 := Same.upd f1 hp2 (o := .tup [.ref p1, .non])
      refine ⟨_, rfl, _, rfl, _, _, _, _, rfl, rfl, en (Same.trans (Same.trans e1 e2) f2), at0 (room_at (by trivial)), (by show 4 ≤ sizeLine; decide), fun p3 hp3 => ⟨(by show 2 ≤ sizeLine; decide), fun p4 hp4 => ?_⟩⟩
      have f3 := Same.upd f2 hp3 (o := .tup [.int 0, .int 0, .int (-1), .int (ns.getD 0 0)])
      have f4 := Same.upd f3 hp4 (o := .tup [.ref p3, .non])
      refine ⟨(by show 2 ≤ sizeLine; decide), fun p5 hp5 => ?_⟩
      have f5 := Same.upd f4 hp5 (o := .lst [.ref p2, .ref p4])
      refine ⟨D, p5, _, _, rfl, rfl, f5 _ _ hacc, upd_same, ?_, fun p6 hp6 => ?_⟩
      · rw [hal, hl]; exact Nat.le_trans (show n + 2 ≤ 66 by trivial) (by decide)
      · have f6 := Same.upd f5 hp6 (o := .lst (acc ++ [.ref p2, .ref p4]))
        refine k _ _ (Same.trans (Same.trans e1 e2) f6) ⟨p6, _, rfl, SqL.of upd_same, by rw [List.length_append, hal, hl]; rfl, fun j y hy => ?_⟩
        by_cases hj : j < acc.length
        · rw [List.getElem?_append_left hj] at hy
          exact (hall j y hy).mono f6
        · rw [List.getElem?_append_right (by trivial)] at hy
          have s1 : Same (L2.upd H' p1 (.tup [.int 0, .int 0, .int 1, .int 0])) (L2.upd (L2.upd (L2.upd (L2.upd (L2.upd (L2.upd H' p1 (.tup [.int 0, .int 0, .int 1, .int 0])) p2 (.tup [.ref p1, .non])) p3 (.tup [.int 0, .int 0, .int (-1), .int (ns.getD 0 0)])) p4 (.tup [.ref p3, .non])) p5 (.lst [.ref p2, .ref p4])) p6 (.lst (acc ++ [.ref p2, .ref p4]))) :=
            Same.upd (Same.upd (Same.upd (Same.upd (Same.upd (Same.refl _) hp2) hp3) hp4) hp5) hp6
          have s2 : Same (L2.upd (L2.upd H' p1 (.tup [.int 0, .int 0, .int 1, .int 0])) p2 (.tup [.ref p1, .non])) _ := Same.upd (Same.upd (Same.upd (Same.upd (Same.refl _) hp3) hp4) hp5) hp6 (o := .lst (acc ++ [.ref p2, .ref p4]))
          have s3 : Same (L2.upd (L2.upd (L2.upd H' p1 (.tup [.int 0, .int 0, .int 1, .int 0])) p2 (.tup [.ref p1, .non])) p3 (.tup [.int 0, .int 0, .int (-1), .int (ns.getD 0 0)])) _ := Same.upd (Same.upd (Same.upd (Same.refl _) hp4) hp5) hp6 (o := .lst (acc ++ [.ref p2, .ref p4]))
          have s4 : Same (L2.upd (L2.upd (L2.upd (L2.upd H' p1 (.tup [.int 0, .int 0, .int 1, .int 0])) p2 (.tup [.ref p1, .non])) p3 (.tup [.int 0, .int 0, .int (-1), .int (ns.getD 0 0)])) p4 (.tup [.ref p3, .non])) _ := Same.upd (Same.upd (Same.refl _) hp5) hp6 (o := .lst (acc ++ [.ref p2, .ref p4]))
          have hacn : acc.length = n := by rw [hal, hl]
          have hcase : (j = n ∧ y = .ref p2) ∨ (j = n + 1 ∧ y = .ref p4) := by
            generalize hm : j - acc.length = m at hy
            match m, hy with
            | 0, hy => cases hy; exact .inl ⟨by trivial, rfl⟩
            | 1, hy => cases hy; exact .inr ⟨by trivial, rfl⟩
            | m + 2, hy => simp at hy
          rcases hcase with ⟨ej, rfl⟩ | ⟨ej, rfl⟩
          · subst ej
            refine ⟨p2, _, _, rfl, SqT.of (s2 _ _ upd_same), ⟨p1, rfl, ?_⟩, fun z => absurd z (by trivial), fun _ => rfl⟩
            have e : Geo.planeM j (Geo.cu ns) (ns.getD 0 0) j = ⟨0, 0, 1, 0⟩ := by unfold Geo.planeM; rw [if_neg (by trivial), if_pos rfl]
            rw [e]
            exact SqT.of (s1 _ _ upd_same)
          · subst ej
            refine ⟨p4, _, _, rfl, SqT.of (s4 _ _ upd_same), ⟨p3, rfl, ?_⟩, fun z => absurd z (by trivial), fun _ => rfl⟩
            have e : Geo.planeM n (Geo.cu ns) (ns.getD 0 0) (n + 1) = ⟨0, 0, -1, ns.getD 0 0⟩ := by unfold Geo.planeM; rw [if_neg (by trivial), if_neg (by trivial)]
            rw [e]
            exact SqT.of (s3 _ _ upd_same)
theorem ok_bt (F : Fun K "is_between_corners" "is_between_corners" st_is_between_corners f fd) : FnOk P w K mg base CX0 1 f fd ["line", "p"] (spBt K) := by
  refine F.ok scBt (fun vs H Q E h => ?_) (fun cdv A outer s H vs Q E hr h => ?_)
  · obtain ⟨v1, v2, a, b, p, rfl, _⟩ := h
    rfl
  · obtain ⟨v1, v2, a, b, p, rfl, ⟨l, va, vb, rfl, sl, ⟨pa, xa, rfl, sa, a0, a1⟩, ⟨pb, xb, rfl, sb, b0, b1⟩⟩, ⟨t2, rfl, s2⟩, ba, bb, bp, k⟩ := h
    refine ⟨_, pss_cons (ps_set (i := 2) scBt.nd rfl (Or.inl rfl) (pe_op op_sub (pe_ix ix_tup (pe_ix ix_tup (pv 0) pe_int (fun _ _ => rfl)) pe_int (fun _ _ => rfl)) (pe_ix ix_tup (pe_ix ix_tup (pv 0) pe_int (fun _ _ => rfl)) pe_int (fun _ _ => rfl))))
      (pss_cons (ps_set (i := 3) scBt.nd rfl (Or.inl rfl) (pe_op op_sub (pe_ix ix_tup (pe_ix ix_tup (pv 0) pe_int (fun _ _ => rfl)) pe_int (fun _ _ => rfl)) (pe_ix ix_tup (pe_ix ix_tup (pv 0) pe_int (fun _ _ => rfl)) pe_int (fun _ _ => rfl))))
      (pss_cons (ps_set (i := 4) scBt.nd rfl (Or.inl rfl) (pe_op op_add (pe_op op_mulB (pv 2) (pe_op op_sub (pe_ix ix_tup (pv 1) pe_int (fun _ _ => rfl)) (pe_op op_mulB (pe_ix ix_tup (pe_ix ix_tup (pv 0) pe_int (fun _ _ => rfl)) pe_int (fun _ _ => rfl)) (pe_ix ix_tup (pv 1) pe_int (fun _ _ => rfl))))) (pe_op op_mulB (pv 3) (pe_op op_sub (pe_ix ix_tup (pv 1) pe_int (fun _ _ => rfl)) (pe_op op_mulB (pe_ix ix_tup (pe_ix ix_tup (pv 0) pe_int (fun _ _ => rfl)) pe_int (fun _ _ => rfl)) (pe_ix ix_tup (pv 1) pe_int (fun _ _ => rfl)))))))
      (pss_one (ps_ret (pe_chain op_lt op_lt pe_int (pv 4) (pe_op op_mulB (pe_op op_add (pe_op op_mulB (pv 2) (pv 2)) (pe_op op_mulB (pv 3) (pv 3))) (pe_ix ix_tup (pv 1) pe_int (fun _ _ => rfl)))))))), ?_⟩
    have u1 : ib (b.1 - a.1) ≤ 100001 := intBits_sub_le bb.x ba.x
    have u2 : ib (b.2 - a.2) ≤ 100001 := intBits_sub_le bb.y ba.y
    have m1 : ib (p.x - a.1 * p.w) ≤ 400001 := Nat.le_trans (intBits_sub_le bp.x (intBits_mul_le ba.x bp.w)) (by decide)
    have m2 : ib (p.y - a.2 * p.w) ≤ 400001 := Nat.le_trans (intBits_sub_le bp.y (intBits_mul_le ba.y bp.w)) (by decide)
    have uu : ib ((b.1 - a.1) * (b.1 - a.1) + (b.2 - a.2) * (b.2 - a.2)) ≤ 200003 := Nat.le_trans (intBits_add_le (intBits_mul_le u1 u1) (intBits_mul_le u2 u2)) (by decide)
    refine ⟨_, rfl, _, _, _, _, rfl, rfl, sl, at1 rfl, _, _, _, _, rfl, rfl, sb, at0 b0, _, rfl, _, _, _, _, rfl, rfl, sl, at0 rfl, _, _, _, _, rfl, rfl, sa, at0 a0, _, _, rfl, rfl, ?_⟩
    refine ⟨_, rfl, _, _, _, _, rfl, rfl, sl, at1 rfl, _, _, _, _, rfl, rfl, sb, at1 b1, _, rfl, _, _, _, _, rfl, rfl, sl, at0 rfl, _, _, _, _, rfl, rfl, sa, at1 a1, _, _, rfl, rfl, ?_⟩
    refine ⟨_, rfl, _, rfl, _, _, _, _, rfl, rfl, s2, at0 rfl, _, rfl, _, _, _, _, rfl, rfl, sl, at0 rfl, _, _, _, _, rfl, rfl, sa, at0 a0, _, rfl, _, _, _, _, rfl, rfl, s2, at3 rfl, _, _, rfl, rfl, ⟨le6 ba.x (by decide), le6 bp.w (by decide)⟩, _, _, rfl, rfl, _, _, rfl, rfl, ⟨le6 u1 (by decide), le6 m1 (by decide)⟩, ?_⟩
    refine ⟨_, rfl, _, rfl, _, _, _, _, rfl, rfl, s2, at1 rfl, _, rfl, _, _, _, _, rfl, rfl, sl, at0 rfl, _, _, _, _, rfl, rfl, sa, at1 a1, _, rfl, _, _, _, _, rfl, rfl, s2, at3 rfl, _, _, rfl, rfl, ⟨le6 ba.y (by decide), le6 bp.w (by decide)⟩, _, _, rfl, rfl, _, _, rfl, rfl, ⟨le6 u2 (by decide), le6 m2 (by decide)⟩, _, _, rfl, rfl, ?_⟩
    unfold Geo.btwM at k
    refine ⟨_, rfl, _, _, rfl, rfl, _, rfl, iteB (fun e => ?_) (fun e => ?_)⟩
    · rw [e, Bool.true_and] at k
      refine ⟨_, rfl, _, rfl, _, _, rfl, rfl, ⟨le6 u1 (by decide), le6 u1 (by decide)⟩, _, rfl, _, rfl, _, _, rfl, rfl, ⟨le6 u2 (by decide), le6 u2 (by decide)⟩, _, _, rfl, rfl, _, rfl, _, _, _, _, rfl, rfl, s2, at3 rfl, _, _, rfl, rfl, ⟨le6 uu (by decide), le6 bp.w (by decide)⟩, ?_⟩
      exact ⟨_, _, rfl, rfl, k⟩
    · rw [e, Bool.false_and] at k
      exact k
theorem ok_mt (F : Fun K "may_turn_at" "may_turn_at" st_may_turn_at f fd) (CD : Cal P w K mg base 1 "depth" ["plane", "p"] (spDp K)) (CB : Cal P w K mg base 1 "is_between_corners" ["line", "p"] (spBt K)) : FnOk P w K mg base CX0 2 f fd ["wall", "p", "walls"] (spMt K) := by
  obtain ⟨fD, fdD, GD, mD, kD, bD⟩ := CD.ex
  obtain ⟨fB, fdB, GB, mB, kB, bB⟩ := CB.ex
  refine F.ok scMt (fun vs H Q E h => ?_) (fun cdv A outer s H vs Q E hr h => ?_)
  · obtain ⟨v1, v2, v3, n, u, h, j, p, rfl, _⟩ := h
    rfl
  · obtain ⟨v1, v2, v3, n, u, h, j, p, rfl, ⟨t, vp, vl, rfl, q1, q2, q3, q4⟩, hp, ⟨lw, ws, rfl, sw, hwl, hw⟩, W, bp, k⟩ := h
    refine ⟨_, pss_cons (ps_set (i := 3) scMt.nd rfl (Or.inl rfl) (pe_ix ix_tup (pv 0) pe_int (fun _ _ => rfl)))
      (pss_cons (ps_if (pt_cmpR op_isN (pv 3) pe_non (nomark _)) (pss_one (ps_ret pe_bl)) pss_nil)
      (pss_one (ps_ret (pe_and (pe_cmpR op_gt (pe_call GD hr rfl mD kD bD .nil pass0 (pa_cons (pe_ix ix_tup (pe_ix ix_list (pv 2) (pe_un un_neg pe_int) (fun _ _ => rfl)) pe_int (fun _ _ => rfl)) (pa_cons (pv 1) pa_nil))) pe_int (nomark _))
        (pe_and (pe_cmpR op_gt (pe_call GD hr rfl mD kD bD .nil pass0 (pa_cons (pe_ix ix_tup (pe_ix ix_list (pv 2) (pe_un un_neg pe_int) (fun _ _ => rfl)) pe_int (fun _ _ => rfl)) (pa_cons (pv 1) pa_nil))) pe_int (nomark _))
        (pe_one (pe_call GB hr rfl mB kB bB .nil pass0 (pa_cons (pv 3) (pa_cons (pv 1) pa_nil))))))))), ?_⟩
    refine ⟨_, rfl, _, _, _, _, rfl, rfl, q1, at1 rfl, ?_⟩
    unfold Geo.mayM at k
    by_cases hj : j < n
    · obtain ⟨l, va, vb, rfl, sl, pa, pb⟩ := q3 hj
      rw [if_pos hj] at k
      refine ⟨_, rfl, rfl, _, rfl, ?_⟩
      rw [decide_eq_false (show ¬ L2.V.ref l = L2.V.non by intro q; cases q)]
      refine iteF ?_
      obtain ⟨x1, g1⟩ := get_at (xs := ws) (i := n) (by trivial)
      obtain ⟨x2, g2⟩ := get_at (xs := ws) (i := n + 1) (by trivial)
      obtain ⟨t1, vp1, vl1, rfl, r1, pp1, _, _⟩ := hw n x1 g1
      obtain ⟨t2, vp2, vl2, rfl, r2, pp2, _, _⟩ := hw (n + 1) x2 g2
      have W1 := W.pl n (by trivial)
      have W2 := W.pl (n + 1) (by trivial)
      have e1 : Geo.planeM n u h n = ⟨0, 0, 1, 0⟩ := by unfold Geo.planeM; rw [if_neg (by trivial), if_pos rfl]
      have e2 : Geo.planeM n u h (n + 1) = ⟨0, 0, -1, h⟩ := by unfold Geo.planeM; rw [if_neg (by trivial), if_neg (by trivial)]
      rw [e1] at pp1 W1
      rw [e2] at pp2 W2
      refine ⟨_, rfl, _, rfl, _, _, _, _, rfl, rfl, sw, atm2 hwl g1, _, _, _, _, rfl, rfl, r1, at0 rfl, _, rfl, _, _, _, _, rfl, pp1, hp, W1, bp.mono (by decide), _, _, rfl, rfl, _, rfl, iteB (fun e => ?_) (fun e => ?_)⟩
      · rw [e, Bool.true_and] at k
        refine ⟨_, rfl, _, rfl, _, _, _, _, rfl, rfl, sw, atm1 hwl g2, _, _, _, _, rfl, rfl, r2, at0 rfl, _, rfl, _, _, _, _, rfl, pp2, hp, W2, bp.mono (by decide), _, _, rfl, rfl, _, rfl, iteB (fun e => ?_) (fun e => ?_)⟩
        · rw [e, Bool.true_and] at k
          exact ⟨_, rfl, _, rfl, _, _, _, _, _, rfl, ⟨l, va, vb, rfl, sl, pa, pb⟩, hp, W.small.bt j, W.small.bt (j + 1), bp, k⟩
        · rw [e, Bool.false_and] at k
          exact k
      · rw [e, Bool.false_and] at k
        exact k
    · have hv := q4 (by trivial)
      subst hv
      rw [if_neg hj] at k
      refine ⟨_, rfl, rfl, _, rfl, ?_⟩
      rw [decide_eq_true (show L2.V.non = L2.V.non from rfl)]
      exact iteT k
theorem ok_sq (F : Fun K "square_length" "square_length" st_square_length f fd) : FnOk P w K mg base CX0 1 f fd ["image", "e"] (spSq K) := by
  refine F.ok scSq (fun vs H Q E h => ?_) (fun cdv A outer s H vs Q E hr h => ?_)
  · obtain ⟨v1, v2, p, e, rfl, _⟩ := h
    rfl
  · obtain ⟨v1, v2, p, e, rfl, ⟨t1, rfl, s1⟩, ⟨t2, rfl, s2⟩, bp, be, k⟩ := h
    refine ⟨_, pss_one (ps_ret (pe_op op_add (pe_op op_add (pe_op op_powB (pe_op op_sub (pe_ix ix_tup (pv 0) pe_int (fun _ _ => rfl)) (pe_ix ix_tup (pv 1) pe_int (fun _ _ => rfl))) pe_int) (pe_op op_powB (pe_op op_sub (pe_ix ix_tup (pv 0) pe_int (fun _ _ => rfl)) (pe_ix ix_tup (pv 1) pe_int (fun _ _ => rfl))) pe_int)) (pe_op op_powB (pe_op op_sub (pe_ix ix_tup (pv 0) pe_int (fun _ _ => rfl)) (pe_ix ix_tup (pv 1) pe_int (fun _ _ => rfl))) pe_int))), ?_⟩
    refine ⟨_, rfl, _, _, _, _, rfl, rfl, s1, at0 rfl, _, rfl, _, _, _, _, rfl, rfl, s2, at0 rfl, _, _, rfl, rfl, _, _, rfl, rfl, pow_ok3 (intBits_sub_le bp.x be.x), ?_⟩
    refine ⟨_, rfl, _, _, _, _, rfl, rfl, s1, at1 rfl, _, rfl, _, _, _, _, rfl, rfl, s2, at1 rfl, _, _, rfl, rfl, _, _, rfl, rfl, pow_ok3 (intBits_sub_le bp.y be.y), _, _, rfl, rfl, ?_⟩
    refine ⟨_, rfl, _, _, _, _, rfl, rfl, s1, at2 rfl, _, rfl, _, _, _, _, rfl, rfl, s2, at2 rfl, _, _, rfl, rfl, _, _, rfl, rfl, pow_ok3 (intBits_sub_le bp.z be.z), _, _, rfl, rfl, ?_⟩
    exact k
theorem ok_lg (F : Fun K "is_leg_clear" "is_leg_clear" st_is_leg_clear f fd) (T : Txt mg) (CM : Cal P w K mg base 2 "lines_meet" ["a", "b", "c", "d"] (spMeet K)) : FnOk P w K mg base CX0 3 f fd ["p", "q", "walls", "own"] (spLg K) := by
  obtain ⟨fM, fdM, GM, mM, kM, bM⟩ := CM.ex
  refine F.ok scLg (fun vs H Q E h => ?_) (fun cdv A outer s H vs Q E hr h => ?_)
  · obtain ⟨v1, v2, v3, v4, p, q, n, u, h, own, rfl, _⟩ := h
    rfl
  · obtain ⟨v1, v2, v3, v4, p, q, n, u, h, own, rfl, ⟨t1, rfl, s1⟩, ⟨t2, rfl, s2⟩, ⟨lw, ws, rfl, sw, hwl, hw⟩, W, ⟨to, rfl, so⟩, bp, bq, k⟩ := h
    refine ⟨_, pss_cons (ps_set (i := 4) scLg.nd rfl (Or.inl rfl) (pe_tup (pa_cons (pe_op op_mulB (pe_ix ix_tup (pv 0) pe_int (fun _ _ => rfl)) (pe_ix ix_tup (pv 1) pe_int (fun _ _ => rfl))) (pa_cons (pe_op op_mulB (pe_ix ix_tup (pv 0) pe_int (fun _ _ => rfl)) (pe_ix ix_tup (pv 1) pe_int (fun _ _ => rfl))) pa_nil))))
      (pss_cons (ps_set (i := 5) scLg.nd rfl (Or.inl rfl) (pe_tup (pa_cons (pe_op op_mulB (pe_ix ix_tup (pv 1) pe_int (fun _ _ => rfl)) (pe_ix ix_tup (pv 0) pe_int (fun _ _ => rfl))) (pa_cons (pe_op op_mulB (pe_ix ix_tup (pv 1) pe_int (fun _ _ => rfl)) (pe_ix ix_tup (pv 0) pe_int (fun _ _ => rfl))) pa_nil))))
      (pss_cons (ps_set (i := 6) scLg.nd rfl (Or.inl rfl) (pe_op op_mulB (pe_ix ix_tup (pv 0) pe_int (fun _ _ => rfl)) (pe_ix ix_tup (pv 1) pe_int (fun _ _ => rfl))))
      (pss_cons (ps_for PassesOwn.never rfl (pi_enum rfl T.enum (pa_cons (pv 2) pa_nil)) (pg_tup rfl (pgs_cons (pg_name (i := 7) scLg.nd rfl (Or.inl rfl)) (pgs_cons (pg_name (i := 8) scLg.nd rfl (Or.inl rfl)) pgs_nil)))
        (pss_cons (ps_set (i := 9) scLg.nd rfl (Or.inl rfl) (pe_ix ix_tup (pv 8) pe_int (fun _ _ => rfl)))
        (pss_cons (ps_if (PW.pt (pw_or (pt_cmpR op_isN (pv 9) pe_non (nomark _)) (pw_or1 (pt_cmpR op_in_seq (pv 7) (pv 3) rfl)))) (pss_one ps_continue) pss_nil)
        (pss_one (ps_if (pt_val (pe_call GM hr rfl mM kM bM .nil pass0 (pa_cons (pv 4) (pa_cons (pv 5)
            (pa_cons (pe_tup (pa_cons (pe_op op_mulB (pe_ix ix_tup (pe_ix ix_tup (pv 9) pe_int (fun _ _ => rfl)) pe_int (fun _ _ => rfl)) (pv 6)) (pa_cons (pe_op op_mulB (pe_ix ix_tup (pe_ix ix_tup (pv 9) pe_int (fun _ _ => rfl)) pe_int (fun _ _ => rfl)) (pv 6)) pa_nil)))
            (pa_cons (pe_tup (pa_cons (pe_op op_mulB (pe_ix ix_tup (pe_ix ix_tup (pv 9) pe_int (fun _ _ => rfl)) pe_int (fun _ _ => rfl)) (pv 6)) (pa_cons (pe_op op_mulB (pe_ix ix_tup (pe_ix ix_tup (pv 9) pe_int (fun _ _ => rfl)) pe_int (fun _ _ => rfl)) (pv 6)) pa_nil))) pa_nil)))))) (pss_one (ps_ret pe_bl)) pss_nil)))))
      (pss_one (ps_ret pe_bl))))), ?_⟩
    have c1 : ib (p.x * q.w) ≤ 80000 := Nat.le_trans (intBits_mul_le bp.x bq.w) (by decide)
    have c2 : ib (p.y * q.w) ≤ 80000 := Nat.le_trans (intBits_mul_le bp.y bq.w) (by decide)
    have c3 : ib (q.x * p.w) ≤ 80000 := Nat.le_trans (intBits_mul_le bq.x bp.w) (by decide)
    have c4 : ib (q.y * p.w) ≤ 80000 := Nat.le_trans (intBits_mul_le bq.y bp.w) (by decide)
    have c5 : ib (p.w * q.w) ≤ 80000 := Nat.le_trans (intBits_mul_le bp.w bq.w) (by decide)
    have lb : ∀ z : Int, ib z ≤ 14 → ib (z * (p.w * q.w)) ≤ 100000 := fun z hz => Nat.le_trans (intBits_mul_le hz c5) (by decide)
    have b40 : ∀ {z : Int}, ib z ≤ 40000 → ib z ≤ 1000000 := fun h => Nat.le_trans h (by decide)
    refine ⟨_, rfl, _, _, _, _, rfl, rfl, s1, at0 rfl, _, rfl, _, _, _, _, rfl, rfl, s2, at3 rfl, _, _, rfl, rfl, ⟨b40 bp.x, b40 bq.w⟩, _, rfl, _, _, _, _, rfl, rfl, s1, at1 rfl, _, rfl, _, _, _, _, rfl, rfl, s2, at3 rfl, _, _, rfl, rfl, ⟨b40 bp.y, b40 bq.w⟩, (by show 2 ≤ sizeLine; decide), fun ts hts => ?_⟩
    have e1 : Same H (L2.upd H ts (.tup [.int (p.x * q.w), .int (p.y * q.w)])) := Same.upd (Same.refl H) hts
    refine ⟨_, rfl, _, _, _, _, rfl, rfl, (Same.tup e1 s2), at0 rfl, _, rfl, _, _, _, _, rfl, rfl, (Same.tup e1 s1), at3 rfl, _, _, rfl, rfl, ⟨b40 bq.x, b40 bp.w⟩, _, rfl, _, _, _, _, rfl, rfl, (Same.tup e1 s2), at1 rfl, _, rfl, _, _, _, _, rfl, rfl, (Same.tup e1 s1), at3 rfl, _, _, rfl, rfl, ⟨b40 bq.y, b40 bp.w⟩, (by show 2 ≤ sizeLine; decide), fun te hte => ?_⟩
    have e2 := Same.upd e1 hte (o := .tup [.int (q.x * p.w), .int (q.y * p.w)])
    refine ⟨_, rfl, _, _, _, _, rfl, rfl, (Same.tup e2 s1), at3 rfl, _, rfl, _, _, _, _, rfl, rfl, (Same.tup e2 s2), at3 rfl, _, _, rfl, rfl, ⟨b40 bp.w, b40 bq.w⟩, ?_⟩
    have ps : PtAt K (L2.upd (L2.upd H ts (.tup [.int (p.x * q.w), .int (p.y * q.w)])) te (.tup [.int (q.x * p.w), .int (q.y * p.w)])) (.ref ts) (p.x * q.w, p.y * q.w) :=
      ⟨ts, _, rfl, SqT.of (Same.upd (Same.refl _) hte _ _ upd_same), rfl, rfl⟩
    have pe : PtAt K (L2.upd (L2.upd H ts (.tup [.int (p.x * q.w), .int (p.y * q.w)])) te (.tup [.int (q.x * p.w), .int (q.y * p.w)])) (.ref te) (q.x * p.w, q.y * p.w) := ⟨te, _, rfl, SqT.of upd_same, rfl, rfl⟩
    have sw2 := e2.seq sw
    refine ⟨_, rfl, lw, ws, rfl, sw2, for_enum (K := K) (a := lw) (xs := ws) (fun i σ H' => Same (L2.upd (L2.upd H ts (.tup [.int (p.x * q.w), .int (p.y * q.w)])) te (.tup [.int (q.x * p.w), .int (q.y * p.w)])) H' ∧
        (∃ x y z, σ = [some (.ref t1), some (.ref t2), some (.ref lw), some (.ref to), some (.ref ts), some (.ref te), some (.int (p.w * q.w)), x, y, z]) ∧ ∀ j, j < i → j < n → legAt n u p q own j = true)
      ⟨Same.refl _, ⟨_, _, _, rfl⟩, fun j hj => by trivial⟩ (fun i σ H' _ ⟨e, _⟩ => e.seq sw2) ?_ ?_⟩
    · rintro i x σ H' TT hi ⟨e3, ⟨y1, y2, y3, rfl⟩, hb⟩ hT
      have hin : i < n + 2 := by rw [← hwl]; exact (List.getElem?_eq_some_iff.1 hi).1
      have e4 := Same.upd e3 hT (o := .tup [.int (i : Nat), x])
      have eH := Same.trans e2 e4
      obtain ⟨tw, vp, vl, rfl, q1, q2, q3, q4⟩ := (hw i x hi).mono eH
      refine ⟨TT, _, rfl, SqT.of upd_same, rfl, _, _, rfl, _, _, rfl, rfl, ?_⟩
      refine ⟨_, rfl, _, _, _, _, rfl, rfl, q1, at1 rfl, ?_⟩
      by_cases hj : i < n
      · obtain ⟨l, va, vb, rfl, sl, ⟨pa, xa, rfl, sa, a0, a1⟩, ⟨pb, xb, rfl, sb, b0, b1⟩⟩ := q3 hj
        refine ⟨_, rfl, rfl, _, rfl, ?_⟩
        rw [decide_eq_false (show ¬ L2.V.ref l = L2.V.non by intro q; cases q)]
        refine iteF ?_
        refine ⟨_, rfl, _, rfl, to, _, rfl, .inr (Same.tup eH so), rfl, flat_row own, _, rfl, ?_⟩
        rw [if_neg Bool.false_ne_true, inV_row]
        refine iteB (fun e => ?_) (fun e => ?_)
        · refine ⟨e4, ⟨_, _, _, rfl⟩, fun j h1 h2 => ?_⟩
          by_cases ej : j = i
          · subst ej; unfold legAt; rw [e, Bool.true_or]
          · exact hb j (by trivial) h2
        · have ca := W.cb i
          have cb := W.cb (i + 1)
          have h14 : ∀ {z : Int}, ib z ≤ 14 → ib z ≤ 1000000 := fun h => Nat.le_trans h (by decide)
          have c5' : ib (p.w * q.w) ≤ 1000000 := Nat.le_trans c5 (by decide)
          refine ⟨_, rfl, _, rfl, _, rfl, _, _, _, _, rfl, rfl, sl, at0 rfl, _, _, _, _, rfl, rfl, sa, at0 a0, _, rfl, _, _, rfl, rfl, ⟨h14 ca.1, c5'⟩, _, rfl, _, _, _, _, rfl, rfl, sl, at0 rfl, _, _, _, _, rfl, rfl, sa, at1 a1, _, rfl, _, _, rfl, rfl, ⟨h14 ca.2, c5'⟩, (by show 2 ≤ sizeLine; decide), fun ta hta => ?_⟩
          have e5 := Same.upd (Same.refl _) hta (o := .tup [.int ((u i).1 * (p.w * q.w)), .int ((u i).2 * (p.w * q.w))])
          refine ⟨_, rfl, _, _, _, _, rfl, rfl, (Same.tup e5 sl), at1 rfl, _, _, _, _, rfl, rfl, (Same.tup e5 sb), at0 b0, _, rfl, _, _, rfl, rfl, ⟨h14 cb.1, c5'⟩, _, rfl, _, _, _, _, rfl, rfl, (Same.tup e5 sl), at1 rfl, _, _, _, _, rfl, rfl, (Same.tup e5 sb), at1 b1, _, rfl, _, _, rfl, rfl, ⟨h14 cb.2, c5'⟩, (by show 2 ≤ sizeLine; decide), fun tb htb => ?_⟩
          have e6 := Same.upd e5 htb (o := .tup [.int ((u (i + 1)).1 * (p.w * q.w)), .int ((u (i + 1)).2 * (p.w * q.w))])
          have e7 := Same.trans e4 e6
          refine ⟨_, _, _, _, _, _, Geo.scr (p.w * q.w) (u i), Geo.scr (p.w * q.w) (u (i + 1)), rfl, ps.mono e7, pe.mono e7, ⟨ta, _, rfl, SqT.of (Same.upd (Same.refl _) htb _ _ upd_same), rfl, rfl⟩, ⟨tb, _, rfl, SqT.of upd_same, rfl, rfl⟩, ?_, ?_⟩
          · exact ⟨⟨Nat.le_trans c1 (by decide), Nat.le_trans c2 (by decide)⟩, ⟨Nat.le_trans c3 (by decide), Nat.le_trans c4 (by decide)⟩, ⟨lb _ ca.1, lb _ ca.2⟩, ⟨lb _ cb.1, lb _ cb.2⟩⟩
          · refine ⟨_, rfl, iteB (fun e8 => ?_) (fun e8 => ?_)⟩
            · have : Geo.legB n u p q own = false := by
                rw [legB_eq, List.all_eq_false]
                refine ⟨i, List.mem_range.2 hj, ?_⟩
                unfold legAt
                rw [e, e8]; simp
              have kk := k _ (Same.trans e2 e7)
              rw [this] at kk
              exact kk
            · refine ⟨e7, ⟨_, _, _, rfl⟩, fun j h1 h2 => ?_⟩
              by_cases ej : j = i
              · subst ej; unfold legAt; rw [e8]; simp
              · exact hb j (by trivial) h2
      · have hv := q4 (by trivial)
        subst hv
        refine ⟨_, rfl, rfl, _, rfl, ?_⟩
        rw [decide_eq_true (show L2.V.non = L2.V.non from rfl)]
        refine iteT ?_
        refine iteT ?_
        refine ⟨e4, ⟨_, _, _, rfl⟩, fun j h1 h2 => ?_⟩
        by_cases ej : j = i
        · trivial
        · exact hb j (by trivial) h2
    · rintro σ H' ⟨e3, ⟨y1, y2, y3, rfl⟩, hb⟩
      have : Geo.legB n u p q own = true := by
        rw [legB_eq, List.all_eq_true]
        intro j hj
        have hj := List.mem_range.1 hj
        exact hb j (by trivial) hj
      have kk := k _ (Same.trans e2 e3)
      rw [this] at kk
      exact kk
theorem ok_pb (F : Fun K "points_by" "points_by" st_points_by f fd) (T : Txt mg) (TW : TxtW mg) (CD : Cal P w K mg base 1 "depth" ["plane", "p"] (spDp K)) (CC : Cal P w K mg base 2 "crossing" ["plane", "p", "q"] (spCs K)) (CM : Cal P w K mg base 2 "may_turn_at" ["wall", "p", "walls"] (spMt K)) :
    FnOk P w K mg base CX0 3 f fd ["row", "images", "e", "walls"] (spPb K) := by
  obtain ⟨fD, fdD, GD, mD, kD, bD⟩ := CD.ex
  obtain ⟨fC, fdC, GC, mC, kC, bC⟩ := CC.ex
  obtain ⟨fM, fdM, GM, mM, kM, bM⟩ := CM.ex
  refine F.ok scPb (fun vs H Q E h => ?_) (fun cdv A outer s0 H vs Q E hr h => ?_)
  · obtain ⟨v1, v2, v3, v4, row, n, u, h, s, e, rfl, _⟩ := h
    rfl
  · obtain ⟨v1, v2, v3, v4, row, n, u, h, s, e, rfl, ⟨t1, rfl, s1⟩, ⟨t2, xi, rfl, s2, ai⟩, he, ⟨lw, ws, rfl, sw, hwl, hw⟩, W, R, be, k⟩ := h
    have hr1 : Room 1 _ := hr.mono (by decide)
    refine ⟨_, pss_cons (ps_set (i := 4) scPb.nd rfl (Or.inl rfl) (pe_lst (pa_cons (pv 2) pa_nil)))
      (pss_cons (ps_for PassesOwn.never rfl (pi_range3 rfl T.range (pa_cons (pe_op op_sub (pe_callB call_len_seq (by rfl) T.len PySem.boot_len (pa_cons (pv 0) pa_nil)) pe_int) (pa_cons (pe_un un_neg pe_int) (pa_cons (pe_un un_neg pe_int) pa_nil)))) (pg_name (i := 5) scPb.nd rfl (Or.inl rfl))
        (pss_cons (ps_set (i := 6) scPb.nd rfl (Or.inl rfl) (pe_ix ix_list (pv 3) (pe_ix ix_tup (pv 0) (pv 5) (fun _ _ => rfl)) (fun _ _ => rfl)))
        (pss_cons (ps_if (pt_cmpR op_le (pe_call GD hr1 rfl mD kD bD .nil pass0 (pa_cons (pe_ix ix_tup (pv 6) pe_int (fun _ _ => rfl)) (pa_cons (pe_ix ix_list (pv 4) (pe_un un_neg pe_int) (fun _ _ => rfl)) pa_nil))) pe_int (nomark _)) (pss_one (ps_ret pe_non)) pss_nil)
        (pss_cons (ps_set (i := 7) scPb.nd rfl (Or.inl rfl) (pe_call GC hr rfl mC kC bC .nil pass0 (pa_cons (pe_ix ix_tup (pv 6) pe_int (fun _ _ => rfl)) (pa_cons (pe_ix ix_tup (pv 1) (pe_op op_add (pv 5) pe_int) (fun _ _ => rfl)) (pa_cons (pe_ix ix_list (pv 4) (pe_un un_neg pe_int) (fun _ _ => rfl)) pa_nil)))))
        (pss_cons (ps_if (pt_not (pt_val (pe_call GM hr rfl mM kM bM .nil pass0 (pa_cons (pv 6) (pa_cons (pv 7) (pa_cons (pv 3) pa_nil)))))) (pss_one (ps_ret pe_non)) pss_nil)
        (pss_one (ps_expr (pe_bm PySem.F.plainAttrs_list PySem.F.slot_list_append PySem.F.type_list_append mt_append (pv 4) (pa_cons (pv 7) pa_nil)))))))))
      (pss_cons (ps_expr (pe_bm PySem.F.plainAttrs_list PySem.F.slot_list_append PySem.F.type_list_append mt_append (pv 4) (pa_cons (pe_ix ix_tup (pv 1) pe_int (fun _ _ => rfl)) pa_nil)))
      (pss_one (ps_ret (pe_listrev rfl rfl TW.list rfl TW.rev (pa_cons (pv 4) pa_nil)))))), ?_⟩
    have hlen := R.len
    have hrl := rowV_len row
    refine ⟨_, rfl, (by show 1 ≤ sizeLine; decide), fun D hD => ?_⟩
    refine ⟨_, rfl, t1, _, rfl, .inr ?_, _, _, rfl, rfl, _, rfl, _, rfl, ((row.length : Int) - 1), -1, -1, row.length, (by rw [hrl]; all_goals rfl), ?_, ?_⟩
    · exact Same.tup (Same.upd (Same.refl H) hD) s1
    · have := RgC.neg (i := (row.length : Int) - 1) (j := -1) (by trivial) (by trivial) (by trivial) (by trivial)
      rwa [show ((row.length : Int) - 1 - -1).toNat = row.length by trivial] at this
    · refine for_rangeC (fun t σ H' => Same H H' ∧ (∃ x y z, σ = [some (.ref t1), some (.ref t2), some v3, some (.ref lw), some (.ref D), x, y, z]) ∧
        ∃ acc ps q, H' D = some (.lst acc) ∧ Al4 K H' acc (e :: ps) ∧ ps.length = t ∧ (e :: ps)[t]? = some q ∧ B4 (2000 + 1100 * t) q ∧
          Geo.bkM n u h (Geo.LR n u h s row.reverse) e = (Geo.bkM n u h ((Geo.LR n u h s row.reverse).drop t) q).map (ps ++ ·)) ?_ ?_ ?_
      · refine ⟨Same.upd (Same.refl H) hD, ⟨_, _, _, rfl⟩, [v3], [], e, upd_same, ?_, rfl, rfl, be.mono (by decide), ?_⟩
        · refine ⟨rfl, fun i x p h1 h2 => ?_⟩
          match i, h1, h2 with
          | 0, h1, h2 => cases h1; cases h2; exact he.mono (Same.upd (Same.refl H) hD)
          | i + 1, h1, h2 => simp at h1
        · rw [List.drop_zero]
          cases Geo.bkM n u h (Geo.LR n u h s row.reverse) e <;> rfl
      · rintro t σ H' ht ⟨e1, ⟨y1, y2, y3, rfl⟩, acc, ps, q, hacc, hal, hps, hq, bq, hbk⟩
        obtain ⟨jw, im, g1, g2, g3⟩ := Geo.LR_get n u h s row ht
        have hjw : jw < n + 2 := R.lt jw (List.mem_of_getElem? g2)
        have bim : B4 1000 im := R.im im (List.mem_of_getElem? g3)
        have hP := W.pl jw hjw
        obtain ⟨xw, gw⟩ := get_at (xs := ws) (i := jw) (by trivial)
        obtain ⟨tw, vp, vl, rfl, q1, q2, q3, q4⟩ := (hw jw xw gw).mono e1
        obtain ⟨xq, gq, pq⟩ := hal.get hq
        obtain ⟨xim, gim, pim⟩ := (ai.mono e1).get g3
        have hacl : acc.length = t + 1 := by rw [hal.1, List.length_cons, hps]
        have dr : (Geo.LR n u h s row.reverse).drop t = (jw, im) :: (Geo.LR n u h s row.reverse).drop (t + 1) := by
          have hl := (List.getElem?_eq_some_iff.1 g1).1
          rw [List.drop_eq_getElem_cons hl]
          congr 1
          exact (List.getElem?_eq_some_iff.1 g1).2
        rw [dr] at hbk
        rw [bkM_cons] at hbk
        have ek : ((row.length : Int) - 1) + (t : Nat) * (-1) = ((row.length - 1 - t : Nat) : Int) := by trivial
        refine ⟨_, rfl, _, rfl, _, rfl, _, _, _, _, rfl, rfl, Same.tup e1 s1, at_of ek (rowV_get g2), _, _, _, _, rfl, rfl, e1.seq sw, atI_nat gw, ?_⟩
        refine ⟨_, rfl, _, _, _, _, rfl, rfl, q1, at0 rfl, _, rfl, _, rfl, _, _, _, _, rfl, rfl, SqL.of hacc, atm1 hacl gq, _, _, _, _, rfl, q2, pq, hP, bq.mono (by trivial), _, _, rfl, rfl, _, rfl, iteB (fun e2 => ?_) (fun e2 => ?_)⟩
        · rw [decide_eq_true_eq] at e2
          rw [if_pos e2] at hbk
          rw [hbk] at k
          exact k _ _ e1 rfl
        · rw [decide_eq_false_iff_not] at e2
          rw [if_neg e2] at hbk
          refine ⟨_, rfl, _, _, _, _, rfl, rfl, q1, at0 rfl, _, rfl, _, rfl, _, _, rfl, rfl, _, _, _, _, rfl, rfl, Same.tup e1 s2, at_of (j := row.length - t) (by trivial) gim, _, rfl, _, rfl, _, _, _, _, rfl, rfl, SqL.of hacc, atm1 hacl gq, ?_⟩
          refine ⟨_, _, _, _, _, _, rfl, q2, pim, pq, hP, bim.mono (by decide), bq.mono (by trivial), fun H2 xc e3 pc => ?_⟩
          have e4 := Same.trans e1 e3
          have bc := crs_bits hP bim bq
          refine ⟨_, rfl, _, rfl, _, rfl, _, _, _, n, u, h, jw, _, rfl, WallAt.mono e3 ⟨tw, vp, vl, rfl, q1, q2, q3, q4⟩, pc, WallsAt.mono e4 ⟨lw, ws, rfl, sw, hwl, hw⟩, W, bc.mono (by trivial), ?_⟩
          refine ⟨_, rfl, iteB (fun e5 => ?_) (fun e5 => ?_)⟩
          · rw [Bool.not_eq_true'] at e5
            rw [if_pos e5] at hbk
            rw [hbk] at k
            exact k _ _ e4 rfl
          · rw [Bool.not_eq_false'] at e5
            rw [if_neg (by rw [e5]; decide)] at hbk
            have hD2 := e3 _ _ hacc
            refine ⟨_, rfl, .inl ⟨rfl, _, SqL.of hD2⟩, _, rfl, D, _, _, rfl, rfl, hD2, by rw [hacl]; exact Nat.lt_of_lt_of_le (show t + 1 < 10 by trivial) (by decide), ?_⟩
            refine ⟨Same.set hD e4, ⟨_, _, _, rfl⟩, _, ps ++ [Geo.crs (Geo.planeM n u h jw) im q], _, upd_same, Al4.set hD2 (Al4.snoc (hal.mono e3) pc), by rw [List.length_append, hps]; rfl, ?_, bc.mono (by trivial), ?_⟩
            · rw [List.getElem?_cons_succ, List.getElem?_append_right (by trivial), hps, Nat.sub_self]; rfl
            · rw [hbk, Option.map_map]
              congr 1
              funext l
              simp [Function.comp]
      · rintro σ H' ⟨e1, ⟨y1, y2, y3, rfl⟩, acc, ps, q, hacc, hal, hps, hq, bq, hbk⟩
        have hacl : acc.length = row.length + 1 := by rw [hal.1, List.length_cons, hps]
        have dr : (Geo.LR n u h s row.reverse).drop row.length = [] := by
          apply List.drop_eq_nil_of_le
          rw [Geo.LR_len, List.length_reverse]; exact Nat.le_refl _
        rw [dr] at hbk
        have hbk' : Geo.bkM n u h (Geo.LR n u h s row.reverse) e = some ps := by rw [hbk]; simp [Geo.bkM]
        obtain ⟨xs0, gs0, ps0⟩ := (ai.mono e1).get (i := 0) (p := s) rfl
        refine ⟨_, rfl, .inl ⟨rfl, _, SqL.of hacc⟩, _, rfl, _, _, _, _, rfl, rfl, (Same.tup e1 s2), at0 gs0, D, _, _, rfl, rfl, hacc, by rw [hacl]; exact Nat.lt_of_lt_of_le (show row.length + 1 < 10 by trivial) (by decide), ?_⟩
        refine ⟨_, rfl, D, _, rfl, SqL.of upd_same, fun l hl => ?_⟩
        have e2 := Same.set hD e1 (o := .lst (acc ++ [xs0]))
        refine k _ _ (Same.upd e2 hl) ?_
        rw [hbk']
        refine ⟨l, _, rfl, upd_same, ?_⟩
        unfold Geo.ptsM
        exact (Al4.rev ((hal.snoc ps0).set hacc)).mono (Same.upd (Same.refl _) hl)
theorem ok_ip (F : Fun K "is_path" "is_path" st_is_path f fd) (T : Txt mg) (CP : Cal P w K mg base 3 "points_by" ["row", "images", "e", "walls"] (spPb K)) (CL : Cal P w K mg base 3 "is_leg_clear" ["p", "q", "walls", "own"] (spLg K)) :
    FnOk P w K mg base CX0 4 f fd ["row", "images", "e", "walls"] (spIp K) := by
  obtain ⟨fP, fdP, GP, mP, kP, bP⟩ := CP.ex
  obtain ⟨fL, fdL, GL, mL, kL, bL⟩ := CL.ex
  refine F.ok scIp (fun vs H Q E h => ?_) (fun cdv A outer s0 H vs Q E hr h => ?_)
  · obtain ⟨v1, v2, v3, v4, row, n, u, h, s, e, rfl, _⟩ := h
    rfl
  · obtain ⟨v1, v2, v3, v4, row, n, u, h, s, e, rfl, hrow, him, he, hwa, W, R, be, k⟩ := h
    refine ⟨_, pss_cons (ps_set (i := 4) scIp.nd rfl (Or.inl rfl) (pe_call GP hr rfl mP kP bP .nil pass0 (pa_cons (pv 0) (pa_cons (pv 1) (pa_cons (pv 2) (pa_cons (pv 3) pa_nil))))))
      (pss_cons (ps_if (pt_cmpR op_isN (pv 4) pe_non (nomark _)) (pss_one (ps_ret pe_bl)) pss_nil)
      (pss_cons (ps_for PassesOwn.never rfl (pi_range1 rfl T.range (pa_cons (pe_op op_add (pe_callB call_len_seq (by rfl) T.len PySem.boot_len (pa_cons (pv 0) pa_nil)) pe_int) pa_nil)) (pg_name (i := 5) scIp.nd rfl (Or.inl rfl))
        (pss_one (ps_if (pt_not (pt_val (pe_call GL hr rfl mL kL bL .nil pass0 (pa_cons (pe_ix ix_list (pv 4) (pv 5) (fun _ _ => rfl)) (pa_cons (pe_ix ix_list (pv 4) (pe_op op_add (pv 5) pe_int) (fun _ _ => rfl)) (pa_cons (pv 3) (pa_cons (pe_slice sl_tupA (pv 0) (po_some (pe_callB (call_max2 rfl) (by rfl) T.max boot_max (pa_cons (pe_op op_sub (pv 5) pe_int) (pa_cons pe_int pa_nil)))) (po_some (pe_op op_add (pv 5) pe_int))) pa_nil))))))) (pss_one (ps_ret pe_bl)) pss_nil)))
      (pss_one (ps_ret pe_bl)))), ?_⟩
    refine ⟨_, rfl, _, rfl, _, rfl, _, rfl, v1, v2, v3, v4, row, n, u, h, s, e, rfl, hrow, him, he, hwa, W, R, be, fun H1 xp e1 hpb => ?_⟩
    refine ⟨_, rfl, rfl, _, rfl, ?_⟩
    have hb0 : Geo.pathM n u h s row e = (match Geo.bkM n u h (Geo.LR n u h s row.reverse) e with | none => false | some ps => Geo.legsM n u s row (Geo.ptsM s e ps)) := rfl
    cases eb : Geo.bkM n u h (Geo.LR n u h s row.reverse) e with
    | none =>
      rw [eb] at hpb hb0
      have hx : xp = .non := hpb
      subst hx
      rw [decide_eq_true (show L2.V.non = L2.V.non from rfl)]
      refine iteT ?_
      have kk := k _ e1
      rw [hb0] at kk
      exact kk
    | some ps =>
      rw [eb] at hpb hb0
      replace hb0 : Geo.pathM n u h s row e = Geo.legsM n u s row (Geo.ptsM s e ps) := hb0
      obtain ⟨l, xs, rfl, hl, hal⟩ := hpb
      rw [decide_eq_false (show ¬ L2.V.ref l = L2.V.non by intro q; cases q)]
      refine iteF ?_
      have hlen := R.len
      have hrl := rowV_len row
      have hpl : ps.length = row.length := by
        have := (Geo.pb_bk n u h s (Geo.LR n u h s row.reverse) e none)
        have key : ∀ (L : List (Nat × Geo.P4)) (q : Geo.P4) (ps : List Geo.P4), Geo.bkM n u h L q = some ps → ps.length = L.length := by
          intro L
          induction L with
          | nil => intro q ps h; cases h; rfl
          | cons x m ih =>
            intro q ps hh
            obtain ⟨j, i⟩ := x
            rw [bkM_cons] at hh
            split at hh
            · cases hh
            split at hh
            · cases hh
            cases e2 : Geo.bkM n u h m (Geo.crs (Geo.planeM n u h j) i q) with
            | none => rw [e2] at hh; cases hh
            | some ps' => rw [e2] at hh; cases hh; simp [ih _ _ e2]
        rw [key _ _ _ eb, Geo.LR_len, List.length_reverse]
      have hptl : (Geo.ptsM s e ps).length = row.length + 2 := by unfold Geo.ptsM; simp [hpl]
      have bpt : ∀ p ∈ Geo.ptsM s e ps, B4 40000 p := by
        intro p hp
        unfold Geo.ptsM at hp
        rw [List.mem_reverse] at hp
        rcases List.mem_append.1 hp with hp | hp
        · rcases List.mem_cons.1 hp with rfl | hp
          · exact be.mono (by decide)
          · have := bk_bits _ _ 1000 ps (fun x hx => ⟨W.pl _ (R.lt _ (Geo.LR_mem_im n u h s row hx).1), R.im _ (Geo.LR_mem_im n u h s row hx).2⟩) be eb p hp
            refine this.mono ?_
            rw [Geo.LR_len, List.length_reverse]; trivial
        · have : p = s := by simpa using hp
          subst this
          exact (R.im p (by unfold Geo.imF; simp)).mono (by decide)
      obtain ⟨t1, rfl, s1⟩ := hrow.mono e1
      refine ⟨_, rfl, t1, _, rfl, .inr s1, _, _, rfl, rfl, ((row.length : Int) + 1), (by rw [hrl]; all_goals rfl), by trivial, by trivial,
        for_range (fun m σ H' => Same H1 H' ∧ (∃ x, σ = [some (.ref t1), some v2, some v3, some v4, some (.ref l), x]) ∧ ∀ j, j < m → Geo.legB n u ((Geo.ptsM s e ps).getD j s) ((Geo.ptsM s e ps).getD (j + 1) s) ((row.take (j + 1)).drop (j - 1)) = true) ⟨Same.refl _, ⟨_, rfl⟩, fun j hj => by trivial⟩ ?_ ?_⟩
      · rintro m σ H' hm ⟨e2, ⟨x, rfl⟩, hb⟩
        have hm' : m ≤ row.length := by trivial
        have gp : ∀ i, i < row.length + 2 → ∃ x, xs[i]? = some x ∧ P4At K H' x ((Geo.ptsM s e ps).getD i s) ∧ B4 40000 ((Geo.ptsM s e ps).getD i s) := by
          intro i hi
          have h1 : (Geo.ptsM s e ps)[i]? = some ((Geo.ptsM s e ps).getD i s) := by
            rw [List.getD_eq_getElem?_getD, List.getElem?_eq_getElem (by trivial)]; rfl
          obtain ⟨x, h2, h3⟩ := (hal.mono e2).get h1
          exact ⟨x, h2, h3, bpt _ (List.mem_of_getElem? h1)⟩
        obtain ⟨x1, g1, p1, b1⟩ := gp m (by trivial)
        obtain ⟨x2, g2, p2, b2⟩ := gp (m + 1) (by trivial)
        have hl' := e2 _ _ hl
        have s1' := Same.tup e2 s1
        have elo : (if (0 : Int) > (0 + (m : Int)) - 1 then (0 : Int) else (0 + (m : Int)) - 1) = ((m - 1 : Nat) : Int) := by split <;> trivial
        have ehi : (0 + (m : Int)) + 1 = ((m + 1 : Nat) : Int) := by trivial
        refine ⟨_, rfl, _, rfl, _, _, _, _, rfl, rfl, SqL.of hl', at_of (j := m) (by trivial) g1, _, rfl, _, rfl, _, _, rfl, rfl, _, _, _, _, rfl, rfl, SqL.of hl', at_of (j := m + 1) (by trivial) g2, _, rfl, _, rfl, ?_⟩
        refine ⟨_, rfl, _, _, rfl, rfl, _, _, rfl, _, rfl, _, rfl, _, _, rfl, rfl, _, rfl, t1, _, rfl, s1', ?_, ?_⟩
        · rw [elo, ehi]
          intro hwh
          refine ⟨x1, x2, v4, _, _, _, n, u, h, _, rfl, p1, p2, (hwa.mono e1).mono e2, W, ⟨t1, rfl, by rw [← own_whole row hm' hwh]; exact s1'⟩, b1, b2, fun H3 e4 => ?_⟩
          refine ⟨_, rfl, iteB (fun e5 => ?_) (fun e5 => ?_)⟩
          · rw [Bool.not_eq_true'] at e5
            have kk := k _ (Same.trans (Same.trans e1 e2) e4)
            have : Geo.legsM n u s row (Geo.ptsM s e ps) = false := by
              unfold Geo.legsM
              rw [List.all_eq_false]
              exact ⟨m, List.mem_range.2 (by trivial), by rw [e5]; decide⟩
            rw [hb0, this] at kk
            exact kk
          · rw [Bool.not_eq_false'] at e5
            refine ⟨Same.trans e2 e4, ⟨_, rfl⟩, fun j hj => ?_⟩
            by_cases ej : j = m
            · subst ej; exact e5
            · exact hb j (by trivial)
        · rw [elo, ehi]
          intro hwh p hp
          have e3 := Same.upd (Same.refl H') hp (o := .tup (cutV (rowV row) (some ((m - 1 : Nat) : Int)) (some ((m + 1 : Nat) : Int))))
          refine ⟨x1, x2, v4, _, _, _, n, u, h, _, rfl, p1.mono e3, p2.mono e3, (hwa.mono e1).mono (Same.trans e2 e3), W, ⟨p, rfl, by rw [← own_cut row hm']; exact SqT.of upd_same⟩, b1, b2, fun H3 e4 => ?_⟩
          have e4' := Same.trans (Same.upd (Same.refl H') hp) e4
          refine ⟨_, rfl, iteB (fun e5 => ?_) (fun e5 => ?_)⟩
          · rw [Bool.not_eq_true'] at e5
            have kk := k _ (Same.trans (Same.trans e1 e2) e4')
            have : Geo.legsM n u s row (Geo.ptsM s e ps) = false := by
              unfold Geo.legsM
              rw [List.all_eq_false]
              exact ⟨m, List.mem_range.2 (by trivial), by rw [e5]; decide⟩
            rw [hb0, this] at kk
            exact kk
          · rw [Bool.not_eq_false'] at e5
            refine ⟨Same.trans e2 e4', ⟨_, rfl⟩, fun j hj => ?_⟩
            by_cases ej : j = m
            · subst ej; exact e5
            · exact hb j (by trivial)
      · rintro σ H' ⟨e2, ⟨x, rfl⟩, hb⟩
        have kk := k _ (Same.trans e1 e2)
        have : Geo.legsM n u s row (Geo.ptsM s e ps) = true := by
          unfold Geo.legsM
          rw [List.all_eq_true]
          intro j hj
          have hj := List.mem_range.1 hj
          exact hb j (by trivial)
        rw [hb0, this] at kk
        exact kk
theorem ok_rw (F : Fun K "rows_of_walls" "rows_of_walls" st_rows_of_walls f fd) (T : Txt mg) (TW : TxtW mg) (CD : Cal P w K mg base 1 "depth" ["plane", "p"] (spDp K)) (CM : Cal P w K mg base 2 "mirrored" ["plane", "p"] (spMi K)) :
    FnOk P w K mg base CX0 3 f fd ["s", "walls", "most"] (spRw K) := by
  obtain ⟨fD, fdD, GD, mD, kD, bD⟩ := CD.ex
  obtain ⟨fM, fdM, GM, mM, kM, bM⟩ := CM.ex
  refine F.ok scRw (fun vs H Q E h => ?_) (fun cdv A outer s0 H vs Q E hr h => ?_)
  · obtain ⟨v1, v2, n, u, h, s, most, rfl, _⟩ := h
    rfl
  · obtain ⟨v1, v2, n, u, h, s, most, rfl, ps, ⟨lw, ws, rfl, sw, hwl, hw⟩, W, bs, hm4, hpow, k⟩ := h
    have hr1 : Room 1 _ := hr.mono (by decide)
    refine ⟨_, pss_cons (ps_set (i := 3) scRw.nd rfl (Or.inl rfl) (pe_lst (pa_cons (pe_tup (pa_cons (pe_tup pa_nil) (pa_cons (pe_tup (pa_cons (pv 0) pa_nil)) pa_nil))) pa_nil)))
      (pss_cons (ps_set (i := 4) scRw.nd rfl (Or.inl rfl) (pe_callTy call_list_of (by rfl) TW.list boot_listT (pa_cons (pv 3) pa_nil)))
      (pss_cons (ps_for PassesOwn.never rfl (pi_range1 rfl T.range (pa_cons (pv 2) pa_nil)) (pg_name (i := 5) scRw.nd rfl (Or.inl rfl))
        (pss_cons (ps_set (i := 6) scRw.nd rfl (Or.inl rfl) (pe_lst pa_nil))
        (pss_cons (ps_for PassesOwn.never rfl (pi_list (pv 3)) (pg_tup rfl (pgs_cons (pg_name (i := 7) scRw.nd rfl (Or.inl rfl)) (pgs_cons (pg_name (i := 8) scRw.nd rfl (Or.inl rfl)) pgs_nil)))
          (pss_one (ps_for PassesOwn.never rfl (pi_enum rfl T.enum (pa_cons (pv 1) pa_nil)) (pg_tup rfl (pgs_cons (pg_name (i := 9) scRw.nd rfl (Or.inl rfl)) (pgs_cons (pg_name (i := 10) scRw.nd rfl (Or.inl rfl)) pgs_nil)))
            (pss_one (ps_if (pt_cmpR op_gt (pe_call GD hr1 rfl mD kD bD .nil pass0 (pa_cons (pe_ix ix_tup (pv 10) pe_int (fun _ _ => rfl)) (pa_cons (pe_ix ix_tup (pv 8) (pe_un un_neg pe_int) (fun _ _ => rfl)) pa_nil))) pe_int (nomark _))
              (pss_one (ps_expr (pe_bm PySem.F.plainAttrs_list PySem.F.slot_list_append PySem.F.type_list_append mt_append (pv 6) (pa_cons (pe_tup (pa_cons (pe_op op_catA (pv 7) (pe_tup (pa_cons (pv 9) pa_nil))) (pa_cons (pe_op op_catA (pv 8) (pe_tup (pa_cons (pe_call GM hr rfl mM kM bM .nil pass0 (pa_cons (pe_ix ix_tup (pv 10) pe_int (fun _ _ => rfl)) (pa_cons (pe_ix ix_tup (pv 8) (pe_un un_neg pe_int) (fun _ _ => rfl)) pa_nil))) pa_nil))) pa_nil))) pa_nil)))) pss_nil)))))
        (pss_cons (ps_expr (pe_bm PySem.F.plainAttrs_list PySem.F.slot_list_extend PySem.F.type_list_extend mt_extend (pv 4) (pa_cons (pv 6) pa_nil)))
        (pss_one (ps_set (i := 3) scRw.nd rfl (Or.inl rfl) (pv 6)))))))
      (pss_one (ps_ret (pv 4))))), ?_⟩
    have n64 := W.small.n64
    refine ⟨(by show 0 ≤ sizeLine; decide), fun p0 hp0 => ⟨_, rfl, (by show 1 ≤ sizeLine; decide), fun p1 hp1 => ⟨(by show 2 ≤ sizeLine; decide), fun p2 hp2 => ⟨(by show 1 ≤ sizeLine; decide), fun p3 hp3 => ?_⟩⟩⟩⟩
    have f0 := Same.upd (Same.refl H) hp0 (o := .tup [])
    have f1 := Same.upd f0 hp1 (o := .tup [v1])
    have f2 := Same.upd f1 hp2 (o := .tup [.ref p0, .ref p1])
    have f3 := Same.upd f2 hp3 (o := .lst [.ref p2])
    refine ⟨_, rfl, p3, _, rfl, .inl (SqL.of upd_same), fun p4 hp4 => ?_⟩
    have f4 := Same.upd f3 hp4 (o := .lst [.ref p2])
    have none_of : ∀ {H2 : Hp} {a : Addr}, Same H H2 → H2 a = none → H a = none := fun {H2 a} e ha => by
      cases hh : H a with
      | none => rfl
      | some o => rw [e _ _ hh] at ha; cases ha
    have g4 := Same.upd (Same.upd (Same.upd (Same.refl _) hp2 (o := .tup [.ref p0, .ref p1])) hp3 (o := .lst [.ref p2])) hp4 (o := .lst [.ref p2])
    have hrw0 : RwAt K (L2.upd (L2.upd (L2.upd (L2.upd (L2.upd H p0 (.tup [])) p1 (.tup [v1])) p2 (.tup [.ref p0, .ref p1])) p3 (.lst [.ref p2])) p4 (.lst [.ref p2])) (.ref p2) n u h s [] := by
      refine ⟨p2, _, _, rfl, SqT.of (Same.upd (Same.upd (Same.refl _) hp3) hp4 _ _ upd_same), ⟨p0, rfl, SqT.of (g4 _ _ (Same.upd (Same.refl _) hp1 _ _ upd_same))⟩, ⟨p1, _, rfl, SqT.of (g4 _ _ upd_same), rfl, fun i x p h1 h2 => ?_⟩⟩
      match i, h1, h2 with
      | 0, h1, h2 => cases h1; cases h2; exact ps.mono f4
      | i + 1, h1, h2 => simp at h1
    have hln : (most : Int).toNat = most := Int.toNat_natCast most
    refine ⟨_, rfl, (most : Int), rfl, by trivial, by trivial, ?_⟩
    rw [hln]
    refine for_range (fun i σ H' => Same H H' ∧ ∃ ln nl rl x5 x6 x7 x8 x9 x10, σ = [some v1, some (.ref lw), some (.int (most : Nat)), some (.ref ln), some (.ref p4), x5, x6, x7, x8, x9, x10] ∧ H' ln = some (.lst nl) ∧ H ln = none ∧ ln ≠ p4 ∧
      RwsAt K H' nl n u h s (Geo.newM n u h s i) ∧ H' p4 = some (.lst rl) ∧ RwsAt K H' rl n u h s ((List.range (i + 1)).flatMap (Geo.newM n u h s))) ?_ ?_ ?_
    · refine ⟨f4, p3, _, _, _, _, _, _, _, _, rfl, ?_, none_of f2 hp3, ?_, RwsAt.one hrw0, upd_same, ?_⟩
      · exact Same.upd (Same.refl _) hp4 _ _ upd_same
      · exact ne_of_none (show (L2.upd _ p3 (.lst [.ref p2])) p3 = some _ from upd_same) hp4
      · exact RwsAt.one hrw0
    · rintro i σ Hb hi ⟨eb, ln, nl, rl, x5, x6, x7, x8, x9, x10, rfl, hln1, hln2, hne, hnl, hrl, hrows⟩
      have hnlen : (Geo.newM n u h s i).length ≤ 20000 := Nat.le_trans (newM_len i) (Nat.le_trans (Nat.pow_le_pow_right (by trivial) (by trivial)) hpow)
      refine ⟨(by show 0 ≤ sizeLine; decide), fun D hD => ?_⟩
      have HD := none_of eb hD
      have dln : D ≠ ln := fun z => by rw [z, hln1] at hD; cases hD
      have dp4 : D ≠ p4 := fun z => by rw [z, hrl] at hD; cases hD
      refine ⟨_, rfl, ln, rfl, ⟨nl, SqL.of (Same.upd (Same.refl _) hD _ _ hln1)⟩, ?_⟩
      refine for_list (K := K) (a := ln) (xs := nl) (fun a σ H2 => Same Hb H2 ∧ (∃ y7 y8 y9 y10, σ = [some v1, some (.ref lw), some (.int (most : Nat)), some (.ref ln), some (.ref p4), some (.int (0 + (i : Nat))), some (.ref D), y7, y8, y9, y10]) ∧
        ∃ acc, H2 D = some (.lst acc) ∧ RwsAt K H2 acc n u h s (((Geo.newM n u h s i).take a).flatMap (extTo n u h s (n + 2)))) ?_ (fun a σ H2 _ ⟨e, _⟩ => SqL.of (e _ _ hln1)) ?_ ?_
      · exact ⟨Same.upd (Same.refl _) hD, ⟨_, _, _, _, rfl⟩, [], upd_same, ⟨rfl, fun i x row h1 h2 => by simp at h1⟩⟩
      · rintro a x σ H2 ha ⟨e2, ⟨y7, y8, y9, y10, rfl⟩, acc, hacc, hal⟩
        obtain ⟨row, hrow, hrx⟩ := (hnl.mono e2).get ha
        have hmem := List.mem_of_getElem? hrow
        obtain ⟨rl1, rl2, rl3⟩ := rok_new W bs i row hmem
        have halt : a < (Geo.newM n u h s i).length := (List.getElem?_eq_some_iff.1 hrow).1
        obtain ⟨t, vr, vi, rfl, q1, q2, q3⟩ := hrx
        refine ⟨t, _, rfl, q1, rfl, _, _, rfl, _, _, rfl, rfl, ?_⟩
        have e02 := Same.trans eb e2
        refine ⟨_, rfl, lw, ws, rfl, e02.seq sw, for_enum (K := K) (a := lw) (xs := ws) (fun b σ H3 => Same Hb H3 ∧ Same H2 (L2.upd H3 D (.lst acc)) ∧ (∃ y9 y10, σ = [some v1, some (.ref lw), some (.int (most : Nat)), some (.ref ln), some (.ref p4), some (.int (0 + (i : Nat))), some (.ref D), some vr, some vi, y9, y10]) ∧
          RowAt K H3 vr row ∧ ImAt K H3 vi (Geo.imF n u h s row) ∧ ∃ acc, H3 D = some (.lst acc) ∧ RwsAt K H3 acc n u h s (((Geo.newM n u h s i).take a).flatMap (extTo n u h s (n + 2)) ++ extTo n u h s b row)) ?_ (fun b σ H3 _ ⟨e, _⟩ => (Same.trans eb e).seq sw) ?_ ?_⟩
        · refine ⟨e2, ?_, ⟨_, _, rfl⟩, q2, q3, acc, hacc, ?_⟩
          · intro c o hc
            by_cases ec : c = D
            · subst ec; rw [hacc] at hc; cases hc; exact upd_same
            · rw [upd_ne ec]; exact hc
          · have : extTo n u h s 0 row = [] := rfl
            rw [this, List.append_nil]; exact hal
        · rintro b x σ H3 TT hb ⟨e3, e3', ⟨y9, y10, rfl⟩, r2, r3, acc3, hacc3, hal3⟩ hT
          have hbn : b < n + 2 := by rw [← hwl]; exact (List.getElem?_eq_some_iff.1 hb).1
          have e4 := Same.upd (Same.refl H3) hT (o := .tup [.int (b : Nat), x])
          have e04 := Same.trans (Same.trans eb e3) e4
          obtain ⟨tw, vp, vl, rfl, w1, w2, _, _⟩ := (hw b x hb).mono e04
          obtain ⟨ti, xi, rfl, si, ai⟩ := r3.mono e4
          obtain ⟨xl, gl, pl⟩ := ai.get (Geo.imF_last n u h s row)
          have hxi : xi.length = row.length + 1 := by rw [ai.1, Geo.imF_len]
          have bl := rl3 _ (List.mem_of_getElem? (Geo.imF_last n u h s row))
          have hP := W.pl b hbn
          have hd4 : (L2.upd H3 TT (.tup [.int (b : Nat), .ref tw])) D = some (.lst acc3) := e4 _ _ hacc3
          refine ⟨TT, _, rfl, SqT.of upd_same, rfl, _, _, rfl, _, _, rfl, rfl, ?_⟩
          refine ⟨_, rfl, _, _, _, _, rfl, rfl, w1, at0 rfl, _, rfl, _, rfl, _, _, _, _, rfl, rfl, si, atm1 hxi gl, _, _, _, _, rfl, w2, pl, hP, bl.mono (by trivial), _, _, rfl, rfl, _, rfl, iteB (fun e5 => ?_) (fun e5 => ?_)⟩
          · refine ⟨_, rfl, .inl ⟨rfl, _, SqL.of hd4⟩, _, rfl, _, rfl, (by show 1 ≤ sizeLine; decide), fun q1' hq1 => ?_⟩
            have e6 := Same.upd (Same.refl _) hq1 (o := .tup [.int (b : Nat)])
            refine cat_row (K := K) (j := b) ((r2.mono e4).mono e6) (SqT.of upd_same) (by trivial) (fun vr2 H5 e7 hvr2 => ?_)
            have e67 := Same.trans e6 e7
            refine ⟨_, rfl, _, rfl, _, _, _, _, rfl, rfl, (Same.tup e67 w1), at0 rfl, _, rfl, _, rfl, _, _, _, _, rfl, rfl, Same.tup e67 si, atm1 hxi gl, _, _, _, _, rfl, w2.mono e67, pl.mono e67, hP, bl.mono (by trivial), fun tm htm => ?_⟩
            have e8 := Same.upd (Same.refl _) htm (o := .tup [.int (Geo.mir (Geo.planeM n u h b) (Geo.hdI s (Geo.LR n u h s row.reverse))).x, .int (Geo.mir (Geo.planeM n u h b) (Geo.hdI s (Geo.LR n u h s row.reverse))).y, .int (Geo.mir (Geo.planeM n u h b) (Geo.hdI s (Geo.LR n u h s row.reverse))).z, .int (Geo.mir (Geo.planeM n u h b) (Geo.hdI s (Geo.LR n u h s row.reverse))).w])
            refine ⟨(by show 1 ≤ sizeLine; decide), fun q2' hq2 => ?_⟩
            have e9 := Same.upd e8 hq2 (o := .tup [.ref tm])
            refine cat_im (K := K) (q := Geo.mir (Geo.planeM n u h b) (Geo.hdI s (Geo.LR n u h s row.reverse))) ⟨ti, xi, rfl, Same.tup (Same.trans e67 e9) si, ai.mono (Same.trans e67 e9)⟩ (by unfold Geo.imF; simp) (SqT.of upd_same) ⟨tm, rfl, SqT.of (Same.upd (Same.refl _) hq2 _ _ upd_same)⟩ (by rw [Geo.imF_len]; trivial) (fun vi2 H6 e10 hvi2 => ?_)
            refine ⟨(by show 2 ≤ sizeLine; decide), fun tt htt => ?_⟩
            have e11 := Same.upd (Same.trans (Same.trans e67 e9) e10) htt (o := .tup [vr2, vi2])
            have hd6 := e11 _ _ hd4
            refine ⟨D, _, _, rfl, rfl, hd6, ?_, ?_⟩
            · rw [hal3.1, List.length_append]
              have l1 := flat_len (f := extTo n u h s (n + 2)) (c := n + 2) ((Geo.newM n u h s i).take a) (fun x _ => extTo_len _ _)
              have l2 := extTo_len (n := n) (u := u) (h := h) (s := s) b row
              rw [List.length_take, Nat.min_eq_left (by trivial)] at l1
              have l3 : a * (n + 2) ≤ 20000 * 66 := Nat.mul_le_mul (by trivial) (by trivial)
              rw [sizeLine_eq]
              trivial
            · have e41 := Same.trans e4 e11
              refine ⟨Same.set hD (Same.trans e3 e41), ?_, ⟨_, _, rfl⟩, (r2.mono e41).set hd6, (r3.mono e41).set hd6, _, upd_same, ?_⟩
              · intro c o hc
                have hc3 := e3' c o hc
                by_cases ec : c = D
                · subst ec; rw [upd_same] at hc3 ⊢; exact hc3
                · rw [upd_ne ec] at hc3; rw [upd_ne ec, upd_ne ec]; exact e41 _ _ hc3
              · rw [extTo_succ, if_pos (show posM n u h s row b = true from e5), ← List.append_assoc]
                refine RwsAt.append ((hal3.mono e41).set hd6) (RwsAt.one (RwAt.set hd6 ?_))
                refine ⟨tt, _, _, rfl, SqT.of upd_same, (hvr2.mono (Same.trans e9 e10)).mono (Same.upd (Same.refl _) htt), ?_⟩
                rw [Geo.imF_snoc]
                exact hvi2.mono (Same.upd (Same.refl _) htt)
          · refine ⟨Same.trans e3 e4, ?_, ⟨_, _, rfl⟩, r2.mono e4, r3.mono e4, acc3, hd4, ?_⟩
            · intro c o hc
              have hc3 := e3' c o hc
              by_cases ec : c = D
              · subst ec; rw [upd_same] at hc3 ⊢; exact hc3
              · rw [upd_ne ec] at hc3 ⊢; exact e4 _ _ hc3
            · rw [extTo_succ, if_neg (show ¬ posM n u h s row b = true by unfold posM; rw [e5]; decide), List.append_nil]
              exact hal3.mono e4
        · rintro σ H3 ⟨e3, e3', ⟨y9, y10, rfl⟩, r2, r3, acc3, hacc3, hal3⟩
          rw [hwl] at hal3
          refine ⟨e3, ⟨_, _, _, _, rfl⟩, acc3, hacc3, ?_⟩
          rw [take_flat hrow]
          exact hal3
      · rintro σ H2 ⟨e2, ⟨y7, y8, y9, y10, rfl⟩, acc, hacc, hal⟩
        rw [hnl.1, List.take_length, ← newM_succ] at hal
        have hr2 := e2 _ _ hrl
        have hl2 := e2 _ _ hln1
        refine ⟨_, rfl, .inl ⟨rfl, _, SqL.of hr2⟩, _, rfl, p4, D, _, _, rfl, rfl, hr2, hacc, ?_, ?_⟩
        · rw [hrows.1, hal.1]
          have l1 := flat_len (f := Geo.newM n u h s) (c := 20000) (List.range (i + 1)) (fun x hx => Nat.le_trans (newM_len x) (Nat.le_trans (Nat.pow_le_pow_right (by trivial) (by have := List.mem_range.1 hx; trivial)) hpow))
          have l2 : (Geo.newM n u h s (i + 1)).length ≤ 20000 := Nat.le_trans (newM_len (i + 1)) (Nat.le_trans (Nat.pow_le_pow_right (by trivial) (by trivial)) hpow)
          rw [List.length_range] at l1
          have l3 : (i + 1) * 20000 ≤ 5 * 20000 := Nat.mul_le_mul_right _ (by trivial)
          rw [sizeLine_eq]
          trivial
        · refine ⟨_, rfl, ?_⟩
          have e5 := Same.set (o := .lst (rl ++ acc)) (none_of f3 hp4) (Same.trans eb e2)
          refine ⟨e5, D, acc, rl ++ acc, _, _, _, _, _, _, rfl, by rw [upd_ne dp4]; exact hacc, HD, dp4, hal.set hr2, upd_same, ?_⟩
          rw [List.range_succ, List.flatMap_append]
          refine RwsAt.append ((hrows.mono e2).set hr2) ?_
          have : [i + 1].flatMap (Geo.newM n u h s) = Geo.newM n u h s (i + 1) := by simp
          rw [this]
          exact hal.set hr2
    · rintro σ H' ⟨eb, ln, nl, rl, x5, x6, x7, x8, x9, x10, rfl, hln1, hln2, hne, hnl, hrl, hrows⟩
      exact ⟨_, rfl, k _ _ _ eb (none_of f3 hp4) hrl hrows⟩
theorem ok_pt (F : Fun K "paths_to" "paths_to" st_paths_to f fd) (CW : Cal P w K mg base 1 "whole_point" ["p"] (spWP K)) (CI : Cal P w K mg base 4 "is_path" ["row", "images", "e", "walls"] (spIp K)) (CS : Cal P w K mg base 1 "square_length" ["image", "e"] (spSq K)) :
    FnOk P w K mg base CX0 5 f fd ["place", "rows", "walls"] (spPt K) := by
  obtain ⟨fW, fdW, GW, mW, kW, bW⟩ := CW.ex
  obtain ⟨fI, fdI, GI, mI, kI, bI⟩ := CI.ex
  obtain ⟨fS, fdS, GS, mS, kS, bS⟩ := CS.ex
  refine F.ok scPt (fun vs H Q E h => ?_) (fun cdv A outer s0 H vs Q E hr h => ?_)
  · obtain ⟨v1, lr, v3, xs, n, u, h, s, rows, p, z, rfl, _⟩ := h
    rfl
  · obtain ⟨v1, lr, v3, xs, n, u, h, s, rows, p, z, rfl, pp, pz, sl, hrw, hwa, W, hR, hlen, be, k⟩ := h
    have hr1 : Room 1 _ := hr.mono (by decide)
    refine ⟨_, pss_cons (ps_set (i := 3) scPt.nd rfl (Or.inr rfl) (pe_call GW hr1 rfl mW kW bW .nil pass0 (pa_cons (pv 0) pa_nil)))
      (pss_one (ps_ret (pe_lc (own := [("row", 4), ("images", 5)]) rfl scPt.nd (pi_list (pv 1)) (blkOk_by blkPt)
        (fun _ _ _ _ _ => pgt (K := K) (n := 2) rfl rfl (pgs_cons (pg_name (i := 4) scPt.nd rfl (Or.inl rfl)) (pgs_cons (pg_name (i := 5) scPt.nd rfl (Or.inl rfl)) pgs_nil)))
        (fun _ _ _ _ _ => pts_one (pt_val (pe_call GI hr rfl mI kI bI .nil pass0 (pa_cons (pv 4) (pa_cons (pv 5) (pa_cons (pv 3) (pa_cons (pv 2) pa_nil)))))))
        (fun _ _ _ _ _ => pe_tup (pa_cons (pv 4) (pa_cons (pe_call GS hr1 rfl mS kS bS .nil pass0 (pa_cons (pe_ix (ixt (K := K) rfl) (pv 5) (pe_un un_neg pe_int) (fun _ _ => rfl)) (pa_cons (pv 3) pa_nil))) pa_nil)))))), ?_⟩
    refine ⟨_, rfl, v1, p, z, rfl, pp, pz, fun te hte => ?_⟩
    have e1 := Same.upd (Same.refl H) hte (o := .tup [.int p.1, .int p.2, .int z, .int 1])
    have he : P4At K (L2.upd H te (.tup [.int p.1, .int p.2, .int z, .int 1])) (.ref te) ⟨p.1, p.2, z, 1⟩ := ⟨te, rfl, SqT.of upd_same⟩
    refine ⟨_, rfl, lr, rfl, ⟨_, e1.seq sl⟩, fun D hD => lc_list (K := K) (a := lr) (xs := xs) (fun i H' => Same (L2.upd H te (.tup [.int p.1, .int p.2, .int z, .int 1])) H' ∧ ∃ acc, H' D = some (.lst acc) ∧ PsAt K H' acc (pathsIn n u h s ⟨p.1, p.2, z, 1⟩ (rows.take i))) ?_ (fun i H' _ ⟨e2, _⟩ => e2.seq (e1.seq sl)) ?_ ?_⟩
    · exact ⟨Same.set hD (Same.refl _), [], upd_same, rfl, fun i x r h1 h2 => by simp at h1⟩
    · rintro i x H' hi ⟨e2, acc, hacc, hal⟩
      have e12 := Same.trans e1 e2
      obtain ⟨row, hrow, hx⟩ := (hrw.mono e12).get hi
      obtain ⟨t, vr, vi, rfl, q1, q2, q3⟩ := hx
      have RO := hR row (List.mem_of_getElem? hrow)
      refine ⟨t, _, rfl, q1, rfl, _, _, rfl, _, _, rfl, rfl, rfl, ?_⟩
      refine ⟨_, rfl, _, rfl, _, rfl, _, rfl, _, _, _, _, row, n, u, h, s, _, rfl, q2, q3, he.mono e2, hwa.mono e12, W, RO, be, fun H3 e3 => ?_⟩
      have hd3 := e3 _ _ hacc
      have hsucc := pathsIn_succ (n := n) (u := u) (h := h) (s := s) (e := ⟨p.1, p.2, z, 1⟩) hrow
      refine ⟨_, rfl, iteB (fun e5 => ?_) (fun e5 => ?_)⟩
      · rw [if_pos e5] at hsucc
        obtain ⟨ti, xi, rfl, si, ai⟩ := q3.mono e3
        obtain ⟨xl, gl, pl⟩ := ai.get (Geo.imF_last n u h s row)
        have hxi : xi.length = row.length + 1 := by rw [ai.1, Geo.imF_len]
        refine ⟨_, rfl, _, rfl, _, rfl, _, _, _, _, rfl, rfl, si, atm1 hxi gl, _, rfl, _, _, _, _, rfl, pl, (he.mono e2).mono e3, RO.im _ (List.mem_of_getElem? (Geo.imF_last n u h s row)), be, ?_⟩
        refine ⟨(by show 2 ≤ sizeLine; decide), fun tt htt => ?_⟩
        have e6 := Same.upd e3 htt (o := .tup [vr, .int (sqL (Geo.hdI s (Geo.LR n u h s row.reverse)) ⟨p.1, p.2, z, 1⟩)])
        have hd6 := e6 _ _ hacc
        refine ⟨acc, hd6, ?_, Same.set hD (Same.trans e2 e6), _, upd_same, ?_⟩
        · rw [hal.1]
          have := pathsIn_len (n := n) (u := u) (h := h) (s := s) (e := ⟨p.1, p.2, z, 1⟩) (rows.take i)
          rw [List.length_take] at this
          rw [sizeLine_eq]
          trivial
        · rw [hsucc]
          exact PsAt.snoc ((hal.mono e6).set hd6) (PathAt.set hd6 ⟨tt, vr, rfl, SqT.of upd_same, (q2.mono e3).mono (Same.upd (Same.refl _) htt)⟩)
      · rw [if_neg (by rw [e5]; decide), List.append_nil] at hsucc
        refine ⟨Same.trans e2 e3, acc, hd3, ?_⟩
        rw [hsucc]
        exact hal.mono e3
    · rintro H' ⟨e2, acc, hacc, hal⟩
      rw [hrw.1, List.take_length] at hal
      have hDn : H D = none := by
        cases hh : H D with
        | none => rfl
        | some o => rw [e1 _ _ hh] at hD; cases hD
      exact k _ D acc (Same.trans e1 e2) hDn hacc hal
theorem ok_pv (F : Fun K "paths_over" "paths_over" st_paths_over f fd) (C1 : Cal P w K mg base 2 "lines_of" ["room"] (spLines K)) (C2 : Cal P w K mg base 3 "walls_of" ["room"] (spWa K)) (C3 : Cal P w K mg base 3 "rows_of_walls" ["s", "walls", "most"] (spRw K))
    (C4 : Cal P w K mg base 1 "whole_point" ["p"] (spWP K)) (C5 : Cal P w K mg base 5 "paths_to" ["place", "rows", "walls"] (spPt K)) (C6 : Cal P w K mg base 4 "is_inside" ["p", "height", "lines"] (spIn K)) :
    FnOk P w K mg base CX0 6 f fd ["s", "places", "most", "room"] (spPv K) := by
  obtain ⟨f1, fd1, G1, m1, k1, b1⟩ := C1.ex
  obtain ⟨f2, fd2, G2, m2, k2, b2⟩ := C2.ex
  obtain ⟨f3, fd3, G3, m3, k3, b3⟩ := C3.ex
  obtain ⟨f4, fd4, G4, m4, k4, b4⟩ := C4.ex
  obtain ⟨f5, fd5, G5, m5, k5, b5⟩ := C5.ex
  obtain ⟨f6, fd6, G6, m6, k6, b6⟩ := C6.ex
  refine F.ok scPv (fun vs H Q E h => ?_) (fun cdv A outer s0 H vs Q E hr h => ?_)
  · obtain ⟨v1, lp, v4, p, z0, N, c, z, most, ns, rfl, _⟩ := h
    rfl
  · obtain ⟨v1, lp, v4, p, z0, N, c, z, most, ns, rfl, pp, pz, ⟨xs, hlp, hxl, hxp⟩, hN, hR, ef, bs, bc, hm4, hpow, k⟩ := h
    have hr1 : Room 1 _ := hr.mono (by decide)
    have hr2 : Room 2 _ := hr.mono (by decide)
    have hr3 : Room 3 _ := hr.mono (by decide)
    have hr4 : Room 4 _ := hr.mono (by decide)
    refine ⟨_, pss_cons (ps_set (i := 4) scPv.nd rfl (Or.inr rfl) (pe_call G1 hr2 rfl m1 k1 b1 .nil pass0 (pa_cons (pv 3) pa_nil)))
      (pss_cons (ps_set (i := 5) scPv.nd rfl (Or.inr rfl) (pe_call G2 hr3 rfl m2 k2 b2 .nil pass0 (pa_cons (pv 3) pa_nil)))
      (pss_cons (ps_set (i := 6) scPv.nd rfl (Or.inr rfl) (pe_call G3 hr3 rfl m3 k3 b3 .nil pass0 (pa_cons (pe_call G4 hr1 rfl m4 k4 b4 .nil pass0 (pa_cons (pv 0) pa_nil)) (pa_cons (pv 5) (pa_cons (pv 2) pa_nil)))))
      (pss_one (ps_ret (pe_lc (own := [("place", 7)]) rfl scPv.nd (pi_list (pv 1)) (blkOk_by blkPv)
        (fun _ _ _ _ _ => pg_name (i := 7) scPv.nd rfl (Or.inl rfl)) (fun _ _ _ _ _ => pts_nil)
        (fun _ _ _ _ _ => pe_ifExp (pt_val (pe_call G6 hr4 rfl m6 k6 b6 .nil pass0 (pa_cons (pv 7) (pa_cons (pe_ix (ixl (K := K) rfl) (pv 3) pe_int (fun _ _ => rfl)) (pa_cons (pv 4) pa_nil))))) (pe_call G5 hr rfl m5 k5 b5 .nil pass0 (pa_cons (pv 7) (pa_cons (pv 6) (pa_cons (pv 5) pa_nil)))) pe_non)))))), ?_⟩
    obtain ⟨S, hn, h3, h64, _, _⟩ := small_room ef
    have W := wok_of ef
    have none_of : ∀ {H2 : Hp} {a : Addr}, Same H H2 → H2 a = none → H a = none := fun {H2 a} e ha => by
      cases hh : H a with
      | none => rfl
      | some o => rw [e _ _ hh] at ha; cases ha
    refine ⟨_, rfl, v4, ns, Geo.cn ns, rfl, hR, hn, by trivial, h64, fun H1 xl e1 hL => ?_⟩
    refine ⟨_, rfl, v4, ns, Geo.cn ns, rfl, hR.mono e1, hn, by trivial, h64, fun H2 xw e2 hW => ?_⟩
    have e02 := Same.trans e1 e2
    refine ⟨_, rfl, v1, p, z0, rfl, pp.mono e02, pz.mono e02, fun ts hts => ?_⟩
    have e3 := Same.upd (Same.refl H2) hts (o := .tup [.int p.1, .int p.2, .int z0, .int 1])
    refine ⟨_, rfl, _, rfl, _, _, Geo.cn ns, Geo.cu ns, ns.getD 0 0, ⟨p.1, p.2, z0, 1⟩, most, rfl, ⟨ts, rfl, SqT.of upd_same⟩, hW.mono e3, W, bs, hm4, hpow, fun H4 lr rs e4 _ hlr hrs => ?_⟩
    have e04 := Same.trans (Same.trans e02 e3) e4
    have e14 := Same.trans (Same.trans e2 e3) e4
    have e24 := Same.trans e3 e4
    obtain ⟨l4, rfl, s4⟩ := hR.mono e04
    refine ⟨_, rfl, lp, rfl, ⟨xs, SqL.of (e04 _ _ hlp)⟩, fun D hD => lc_list (K := K) (a := lp) (xs := xs) (fun i H' => Same H4 H' ∧ ∃ acc, H' D = some (.lst acc) ∧ acc.length = i ∧ ∀ (j : Nat) x, acc[j]? = some x → (x ≠ .ref D ∧ ∀ a, x = .ref a → H a = none) ∧ PoAt K H' x (placeO ns ⟨p.1, p.2, z0, 1⟩ (c j) (z j) most)) ?_ (fun i H' _ ⟨e5, _⟩ => SqL.of (e5 _ _ (e04 _ _ hlp))) ?_ ?_⟩
    · exact ⟨Same.set hD (Same.refl _), [], upd_same, rfl, fun j x h => by simp at h⟩
    · rintro i x H' hi ⟨e5, acc, hacc, hal, hall⟩
      have hiN : i < N := by rw [← hxl]; exact (List.getElem?_eq_some_iff.1 hi).1
      have e05 := Same.trans e04 e5
      obtain ⟨px, cx⟩ := hxp i x hi
      have px' := px.mono e05
      have cx' := cx.mono e05
      have bx := bc i hiN
      have hlt : i < sizeLine := Nat.lt_of_lt_of_le hiN (Nat.le_trans hN (by decide))
      refine ⟨rfl, ?_⟩
      refine ⟨_, rfl, _, rfl, _, _, _, _, rfl, rfl, e5.seq s4, at0 (room_at (by trivial)), _, rfl, x, _, c i, z i, _, Geo.cn ns, Geo.cu ns, rfl, px', cx', ⟨Nat.le_trans bx.x (by decide), Nat.le_trans bx.y (by decide)⟩, (hL.mono e14).mono e5, S, _, rfl, iteB (fun ei => ?_) (fun ei => ?_)⟩
      · refine ⟨_, rfl, _, rfl, _, rfl, x, lr, _, rs, Geo.cn ns, Geo.cu ns, ns.getD 0 0, ⟨p.1, p.2, z0, 1⟩, _, c i, z i, rfl, px', cx', SqL.of (e5 _ _ hlr), hrs.mono e5, (hW.mono e24).mono e5, W, ?_, rows_len hm4 hpow, bx, fun H6 l6 ys6 e6 hn6 hl6 hp6 => ?_⟩
        · intro row hrow
          unfold Geo.rowsM at hrow
          rw [List.mem_flatMap] at hrow
          obtain ⟨kk, hk1, hk2⟩ := hrow
          exact rok_of W bs (by have := List.mem_range.1 hk1; trivial) hk2
        · have hd6 := e6 _ _ hacc
          have hne : l6 ≠ D := fun q => by rw [q, hacc] at hn6; cases hn6
          refine ⟨acc, hd6, by rw [hal]; exact hlt, Same.set hD (Same.trans e5 e6), _, upd_same, by rw [List.length_append, hal]; rfl, fun j y hy => ?_⟩
          rcases snoc_get hy with ⟨_, hy⟩ | ⟨hj, rfl⟩
          · exact ⟨(hall j y hy).1, PoAt.set hd6 (hall j y hy).1.1 ((hall j y hy).2.mono e6)⟩
          · rw [hal] at hj
            subst hj
            have hx : (L2.V.ref l6) ≠ .ref D := fun q => by cases q; exact hne rfl
            refine ⟨⟨hx, fun a ea => by cases ea; exact none_of e05 hn6⟩, PoAt.set hd6 hx ?_⟩
            unfold placeO
            rw [if_pos ei]
            exact ⟨l6, ys6, rfl, hl6, hp6⟩
      · refine ⟨acc, hacc, by rw [hal]; exact hlt, Same.set hD e5, _, upd_same, by rw [List.length_append, hal]; rfl, fun j y hy => ?_⟩
        rcases snoc_get hy with ⟨_, hy⟩ | ⟨hj, rfl⟩
        · exact ⟨(hall j y hy).1, PoAt.set hacc (hall j y hy).1.1 (hall j y hy).2⟩
        · rw [hal] at hj
          subst hj
          refine ⟨⟨(by intro q; cases q), (by intro a q; cases q)⟩, ?_⟩
          unfold placeO
          rw [if_neg (by rw [ei]; decide)]
          rfl
    · rintro H' ⟨e5, acc, hacc, hal, hall⟩
      exact k _ D acc (Same.trans e04 e5) (none_of e04 hD) hacc (by rw [hal, hxl]) (fun i x hx => ⟨(hall i x hx).1.2, (hall i x hx).2⟩)
theorem ok_rt (F : Fun K "root" "root" st_root f fd) : FnOk P w K mg base CX0 1 f fd ["number"] spRt := by
  refine F.ok scRt (fun vs H Q E h => ?_) (fun cdv A outer s0 H vs Q E hr h => ?_)
  · obtain ⟨n, rfl, _⟩ := h
    rfl
  · obtain ⟨n, rfl, bn, k⟩ := h
    refine ⟨_, pss_cons (ps_set (i := 1) scRt.nd rfl (Or.inl rfl) pe_int)
      (pss_cons (ps_while PassesOwn.never (pt_cmpR op_lt (pe_op op_mulB (pv 1) (pv 1)) (pv 0) (nomark _)) (pss_one (ps_set (i := 1) scRt.nd rfl (Or.inl rfl) (pe_op op_mulB (pv 1) pe_int))))
      (pss_cons (ps_while PassesOwn.never (pt_cmpR op_gt (pe_op op_mulB (pv 1) (pv 1)) (pv 0) (nomark _)) (pss_one (ps_set (i := 1) scRt.nd rfl (Or.inl rfl) (pe_op op_fdivB (pe_op op_add (pv 1) (pe_op op_fdivB (pv 0) (pv 1))) pe_int))))
      (pss_one (ps_ret (pv 1))))), ?_⟩
    have b2 : ib ((2 * n + 1 : Nat) : Int) ≤ 8004 := by
      have : ((2 * n + 1 : Nat) : Int) = 2 * (n : Int) + 1 := by omega
      rw [this]
      exact Nat.le_trans (intBits_add_le (intBits_mul_le two_bits bn) (show ib 1 ≤ 1 by decide)) (by decide)
    refine while_by (fun σ H' => H' = H ∧ ∃ g : Nat, σ = [some (.int (n : Int)), some (.int (g : Int))] ∧ 1 ≤ g ∧ g ≤ 2 * n + 1) (gs fun g => 2 * n + 1 - g.toNat) ⟨rfl, 1, rfl, Nat.le_refl _, by omega⟩ ?_
      (fun σ H Q Q' hq ⟨v1, h1, v2, h2, i, j, e1, e2, hc, v3, h3, a, b, e3, e4, c, e5, q⟩ => ⟨v1, h1, v2, h2, i, j, e1, e2, hc, v3, h3, a, b, e3, e4, c, e5, hq _ _ q⟩)
    rintro σ H' ⟨rfl, g, rfl, g1, g2⟩
    have bg := le6 (ib_le g2 b2) (by decide)
    refine ⟨_, rfl, _, rfl, _, _, rfl, rfl, ⟨bg, bg⟩, _, rfl, _, _, rfl, rfl, _, rfl, iteB (fun e => ?_) (fun e => ?_)⟩
    · rw [decide_eq_true_eq] at e
      have e' : g * g < n := by exact_mod_cast e
      have hg : g ≤ g * g := Nat.le_mul_of_pos_left g g1
      refine ⟨_, rfl, _, _, rfl, rfl, ⟨bg, le6 two_bits (by decide)⟩, ⟨rfl, g * 2, ?_, by omega, by omega⟩, ?_⟩
      · rw [Int.natCast_mul]; rfl
      · show 2 * n + 1 - ((g : Int) * 2).toNat < 2 * n + 1 - (g : Int).toNat
        omega
    · rw [decide_eq_false_iff_not] at e
      have e' : n ≤ g * g := by
        have : (n : Int) ≤ (g : Int) * g := by omega
        exact_mod_cast this
      refine while_by (fun σ H'' => H'' = H' ∧ ∃ g : Nat, σ = [some (.int (n : Int)), some (.int (g : Int))] ∧ g ≤ 2 * n + 1 ∧ n < (g + 1) * (g + 1)) (gs fun g => g.toNat) ⟨rfl, g, rfl, g2, ?_⟩ ?_
        (fun σ H Q Q' hq ⟨v1, h1, v2, h2, i, j, e1, e2, hc, v3, h3, a, b, e3, e4, c, e5, q⟩ => ⟨v1, h1, v2, h2, i, j, e1, e2, hc, v3, h3, a, b, e3, e4, c, e5, hq _ _ q⟩)
      · have : (g + 1) * (g + 1) = g * g + 2 * g + 1 := by grind
        omega
      rintro σ H'' ⟨rfl, g, rfl, g2, g3⟩
      have bg := le6 (ib_le g2 b2) (by decide)
      refine ⟨_, rfl, _, rfl, _, _, rfl, rfl, ⟨bg, bg⟩, _, rfl, _, _, rfl, rfl, _, rfl, iteB (fun e => ?_) (fun e => ?_)⟩
      · rw [decide_eq_true_eq] at e
        have e' : n < g * g := by exact_mod_cast e
        have nw := newton e'
        have g0 : 0 < g := Nat.pos_of_ne_zero fun z => by rw [z] at e'; simp at e'
        refine ⟨_, rfl, _, rfl, _, rfl, _, _, rfl, rfl, ⟨by omega, Nat.le_trans (ib_le g2 b2) (by decide)⟩, _, _, rfl, rfl, _, _, rfl, rfl, ⟨by decide, by decide⟩, ⟨rfl, (g + n / g) / 2, ?_, by omega, nw.2⟩, ?_⟩
        · have : (((g + n / g) / 2 : Nat) : Int) = ((g : Int) + (n : Int) / (g : Int)) / 2 := by rw [Int.natCast_ediv, Int.natCast_add, Int.natCast_ediv]; rfl
          rw [this]; rfl
        · show (((g : Int) + (n : Int) / (g : Int)) / 2).toNat < (g : Int).toNat
          have : (((g + n / g) / 2 : Nat) : Int) = ((g : Int) + (n : Int) / (g : Int)) / 2 := by rw [Int.natCast_ediv, Int.natCast_add, Int.natCast_ediv]; rfl
          rw [← this]
          have := nw.1
          omega
      · rw [decide_eq_false_iff_not] at e
        have e' : g * g ≤ n := by
          have : (g : Int) * g ≤ (n : Int) := by omega
          exact_mod_cast this
        have := Geo.root_uniq e' g3
        refine ⟨_, rfl, ?_⟩
        rw [this]
        exact k
theorem ok_lv (F : Fun K "level_of" "level_of" st_level_of f fd) (TV : TxtV mg) : FnOk P w K mg base CX0 1 f fd ["energy"] spLv := by
  obtain ⟨t1, m1⟩ := TV.no
  obtain ⟨t2, m2⟩ := TV.zero
  refine F.ok scLv (fun vs H Q E h => ?_) (fun cdv A outer s0 H vs Q E hr h => ?_)
  · obtain ⟨e, rfl, _⟩ := h
    rfl
  · obtain ⟨e, rfl, hs, k⟩ := h
    refine ⟨_, pss_cons (ps_if (pt_cmpR op_eq (pv 0) pe_int (nomark _)) (pss_one (ps_ret (pe_glob (v := .int (-100000)) rfl m1 ⟨_, rfl⟩))) pss_nil)
      (pss_cons (ps_set (i := 1) scLv.nd rfl (Or.inl rfl) (pe_op op_powB (pv 0) pe_int))
      (pss_cons (ps_set (i := 2) scLv.nd rfl (Or.inl rfl) (pe_op op_powB (pe_glob (v := .int 281474976710656) rfl m2 ⟨_, rfl⟩) pe_int))
      (pss_cons (ps_set (i := 3) scLv.nd rfl (Or.inl rfl) pe_int)
      (pss_cons (ps_while PassesOwn.never (pt_cmpR op_le (pe_op op_mulB (pv 2) pe_int) (pv 1) (nomark _)) (pss_cons (ps_set (i := 2) scLv.nd rfl (Or.inl rfl) (pe_op op_mulB (pv 2) pe_int)) (pss_one (ps_aug (i := 3) scLv.nd rfl (Or.inl rfl) pe_int ip_add))))
      (pss_cons (ps_while PassesOwn.never (pt_cmpR op_lt (pv 1) (pv 2) (nomark _)) (pss_cons (ps_set (i := 1) scLv.nd rfl (Or.inl rfl) (pe_op op_mulB (pv 1) pe_int)) (pss_one (ps_aug (i := 3) scLv.nd rfl (Or.inl rfl) pe_int ip_sub))))
      (pss_one (ps_ret (pv 3)))))))), ?_⟩
    refine ⟨_, rfl, rfl, _, rfl, ?_⟩
    by_cases he : e = 0
    · subst he
      rw [decide_eq_true (show L2.V.int ((0 : Nat) : Int) = L2.V.int 0 from rfl)]
      rw [lev_zero] at k
      exact iteT k
    · rw [decide_eq_false (show ¬ L2.V.int (e : Int) = L2.V.int 0 by intro q; have := L2.V.int.inj q; omega)]
      refine iteF ?_
      have be : ib (e : Int) ≤ 100 := ib_of hs
      refine ⟨_, rfl, _, _, rfl, rfl, pow10_ok be, ?_⟩
      refine ⟨_, _, rfl, rfl, pow10_ok (by decide), ?_⟩
      have L := lvF he hs
      generalize bd = B at L
      generalize pw e = PW at L
      have ep := L.p0
      have eb := L.b0
      show tWhile _ _ _ [some (L2.V.int (e : Int)), some (L2.V.int ((e : Int) ^ (10 : Int).toNat)), some (L2.V.int ((281474976710656 : Int) ^ (10 : Int).toNat)), some (L2.V.int 0)] H
      rw [ep, eb]
      clear ep eb hs be
      refine while_by (fun σ H' => H' = H ∧ ∃ c : Nat, σ = [some (.int (e : Int)), some (.int ((PW 0 : Nat) : Int)), some (.int ((B c : Nat) : Int)), some (.int (c : Int))] ∧ (c = 0 ∨ B c ≤ PW 0)) (gs4 fun p b => p.toNat - b.toNat) ⟨rfl, 0, rfl, .inl rfl⟩ ?_
        (fun σ H Q Q' hq ⟨v1, h1, i, j, e1, e2, hc, v3, h3, a, b, e3, e4, c, e5, q⟩ => ⟨v1, h1, i, j, e1, e2, hc, v3, h3, a, b, e3, e4, c, e5, hq _ _ q⟩)
      rintro σ H' ⟨rfl, c, rfl, hc⟩
      have bc : ib ((B c : Nat) : Int) ≤ 1000 := L.bits c hc
      have bpos := L.bpos c
      refine ⟨_, rfl, _, _, rfl, rfl, ⟨le6 bc (by decide), by decide⟩, _, rfl, _, _, rfl, rfl, _, rfl, iteB (fun e1 => ?_) (fun e1 => ?_)⟩
      · rw [decide_eq_true_eq] at e1
        have e1' : B c * 10 ≤ PW 0 := by exact_mod_cast e1
        refine ⟨_, rfl, _, _, rfl, rfl, ⟨le6 bc (by decide), by decide⟩, _, rfl, _, _, rfl, rfl, ⟨rfl, c + 1, ?_, .inr (by rw [L.bs]; exact e1')⟩, ?_⟩
        · rw [L.bs, Int.natCast_mul]; rfl
        · refine lv_lt ?_
          have t1 : (((B c : Nat) : Int) * 10).toNat = B c * 10 := by omega
          show ((PW 0 : Nat) : Int).toNat - (((B c : Nat) : Int) * 10).toNat < ((PW 0 : Nat) : Int).toNat - ((B c : Nat) : Int).toNat
          rw [t1, Int.toNat_natCast, Int.toNat_natCast]; clear t1; omega
      · rw [decide_eq_false_iff_not] at e1
        have e1' : ¬ B c * 10 ≤ PW 0 := fun h => e1 (by exact_mod_cast h)
        refine while_by (fun σ H'' => H'' = H' ∧ ∃ j : Nat, σ = [some (.int (e : Int)), some (.int ((PW j : Nat) : Int)), some (.int ((B c : Nat) : Int)), some (.int ((c : Int) - (j : Int)))] ∧ (j = 0 ∨ (c = 0 ∧ PW (j - 1) < B 0))) (gs4 fun p b => b.toNat - p.toNat) ⟨rfl, 0, ?_, .inl rfl⟩ ?_
          (fun σ H Q Q' hq ⟨v1, h1, v3, h3, a, b, e3, e4, c, e5, q⟩ => ⟨v1, h1, v3, h3, a, b, e3, e4, c, e5, hq _ _ q⟩)
        · have : ((c : Int) - ((0 : Nat) : Int)) = c := by omega
          rw [this]
        rintro σ H'' ⟨rfl, j, rfl, hj⟩
        refine ⟨_, rfl, _, rfl, _, _, rfl, rfl, _, rfl, iteB (fun e2 => ?_) (fun e2 => ?_)⟩
        · rw [decide_eq_true_eq] at e2
          have e2' : PW j < B c := by exact_mod_cast e2
          have bj : ib ((PW j : Nat) : Int) ≤ 1000 := ib_le (Nat.le_of_lt e2') bc
          have p1 : 1 ≤ PW j := L.p1 j
          have c0 : c = 0 := by
            rcases hc with hc | hc
            · exact hc
            · have := L.pm j
              omega
          refine ⟨_, rfl, _, _, rfl, rfl, ⟨le6 bj (by decide), by decide⟩, _, rfl, _, _, rfl, rfl, ⟨rfl, j + 1, ?_, .inr ⟨c0, by rw [Nat.add_sub_cancel, ← c0]; exact e2'⟩⟩, ?_⟩
          · have e4 : ((c : Int) - ((j + 1 : Nat) : Int)) = (c : Int) - (j : Int) - 1 := by omega
            rw [L.ps, Int.natCast_mul, e4]; rfl
          · refine lv_lt ?_
            have t1 : (((PW j : Nat) : Int) * 10).toNat = PW j * 10 := by omega
            show ((B c : Nat) : Int).toNat - (((PW j : Nat) : Int) * 10).toNat < ((B c : Nat) : Int).toNat - ((PW j : Nat) : Int).toNat
            rw [t1, Int.toNat_natCast, Int.toNat_natCast]; clear t1; omega
        · rw [decide_eq_false_iff_not] at e2
          have e2' : ¬ PW j < B c := fun h => e2 (by exact_mod_cast h)
          refine ⟨_, rfl, ?_⟩
          rw [← L.fin c j hc e1' hj e2']
          exact k
theorem ok_st (F : Fun K "stuffs_of" "stuffs_of" st_stuffs_of f fd) (T : Txt mg) : FnOk P w K mg base CX0 1 f fd ["room"] (spSt K) := by
  obtain ⟨t1, m1⟩ := T.head
  refine F.ok scSt (fun vs H Q E h => ?_) (fun cdv A outer s0 H vs Q E hr h => ?_)
  · obtain ⟨v, ns, rfl, _⟩ := h
    rfl
  · obtain ⟨v, ns, rfl, ⟨l, rfl, sl⟩, ef, k⟩ := h
    refine ⟨_, pss_one (ps_ret (pe_op op_cat (pe_lc (own := [("k", 1)]) rfl scSt.nd
      (pi_range3 rfl T.range (pa_cons (pe_op op_add (pe_glob (v := .int 3) rfl m1 ⟨_, rfl⟩) pe_int) (pa_cons (pe_callB call_len_seq (by rfl) T.len PySem.boot_len (pa_cons (pv 0) pa_nil)) (pa_cons pe_int pa_nil))))
      (blkOk_by blkSt) (fun _ _ _ _ _ => pg_name (i := 1) scSt.nd rfl (Or.inl rfl)) (fun _ _ _ _ _ => pts_nil)
      (fun _ _ _ _ _ => pe_ix (ixl (K := K) rfl) (pv 0) (pv 1) (fun _ _ => rfl)))
      (pe_lst (pa_cons (pe_ix ix_list (pv 0) pe_int (fun _ _ => rfl)) (pa_cons (pe_ix ix_list (pv 0) pe_int (fun _ _ => rfl)) pa_nil))))), ?_⟩
    obtain ⟨S, hn, h3, h64, hc, hh⟩ := small_room ef
    have hlen : (ns.map L2.V.int).length = 3 + 3 * Geo.cn ns := by rw [List.length_map]; exact hn
    refine ⟨_, _, rfl, rfl, _, rfl, _, _, rfl, .inl sl, 5, ((3 + 3 * Geo.cn ns : Nat) : Int), 3, Geo.cn ns, (by rw [hlen]; all_goals rfl), rg5 (by trivial), fun D hD => lc_rangeC (fun i H' => Same H H' ∧ H' D = some (.lst (natV ((List.range i).map (Geo.stuffN ns))))) ?_ ?_ ?_⟩
    · exact ⟨Same.set hD (Same.refl H), upd_same⟩
    · rintro i H' hi ⟨s1, hacc⟩
      refine ⟨rfl, ?_⟩
      refine ⟨_, rfl, _, rfl, _, _, _, _, rfl, rfl, s1.seq sl, at_of (j := 3 + 3 * i + 2) (by trivial) (room_at (by trivial)), _, hacc, ?_, Same.set hD s1, ?_⟩
      · rw [natV_len, List.length_map, List.length_range]
        exact Nat.lt_of_lt_of_le (show i < 100 by trivial) (by decide)
      · rw [upd_same, List.range_succ, List.map_append, List.map_singleton, natV_snoc, stuffN_int ef, if_pos hi]
    · rintro H' ⟨s1, hacc⟩
      refine ⟨_, rfl, _, _, _, _, rfl, rfl, s1.seq sl, at1 (room_at (by trivial)), _, rfl, _, _, _, _, rfl, rfl, s1.seq sl, at2 (room_at (by trivial)), (by show 2 ≤ sizeLine; decide), fun p hp => ?_⟩
      have e2 := Same.upd (Same.refl H') hp (o := .lst [.int (ns.getD 1 0), .int (ns.getD 2 0)])
      refine ⟨D, p, _, _, rfl, rfl, e2 _ _ hacc, upd_same, ?_, fun q hq => ?_⟩
      · rw [natV_len, List.length_map, List.length_range]
        exact Nat.le_trans (show Geo.cn ns + 2 ≤ 100 by trivial) (by decide)
      · refine k _ q (Same.upd (Same.trans s1 e2) hq) ?_
        rw [upd_same]
        have ea := stuffN_int ef (Geo.cn ns)
        have eb := stuffN_int ef (Geo.cn ns + 1)
        rw [if_neg (by trivial), if_pos rfl] at ea
        rw [if_neg (by trivial), if_neg (by trivial)] at eb
        rw [List.range_succ, List.range_succ, List.map_append, List.map_append, List.map_singleton, List.map_singleton, natV_snoc, natV_snoc, ea, eb, List.append_assoc]
        rfl
theorem ok_pl (F : Fun K "parts_left" "parts_left" st_parts_left f fd) (TL : TxtL mg) (CR : Cal P w K mg base 1 "root" ["number"] spRt) : FnOk P w K mg base CX0 2 f fd ["stuffs", "square", "band", "book"] (spPl K) := by
  obtain ⟨fR, fdR, GR, mR, kR, bR⟩ := CR.ex
  obtain ⟨t1, m1⟩ := TL.step
  obtain ⟨t2, m2⟩ := TL.bands
  obtain ⟨t3, m3⟩ := TL.air
  refine F.ok scPl (fun vs H Q E h => ?_) (fun cdv A outer s0 H vs Q E hr h => ?_)
  · obtain ⟨v1, v4, sts, sq, band, bs, rfl, _⟩ := h
    rfl
  · obtain ⟨v1, v4, sts, sq, band, bs, rfl, ⟨l, rfl, sl⟩, h7, h10, hsq, hb, ⟨lb, rfl, sb⟩, B, k⟩ := h
    refine ⟨_, pss_cons (ps_set (i := 4) scPl.nd rfl (Or.inl rfl) (pe_op op_fdiv (pe_call GR hr rfl mR kR bR .nil pass0 (pa_cons (pv 1) pa_nil)) (pe_glob (v := .int 1024) rfl m1 ⟨_, rfl⟩)))
      (pss_one (ps_ret (pe_op op_cat (pe_lc (own := [("stuff", 5)]) rfl scPl.nd (pi_list (pv 0)) (blkOk_by blkPl) (fun _ _ _ _ _ => pg_name (i := 5) scPl.nd rfl (Or.inl rfl)) (fun _ _ _ _ _ => pts_nil)
        (fun _ _ _ _ _ => pe_ix (ixl (K := K) rfl) (pv 3) (pe_op op_add (pe_op op_mulB (pe_glob (v := .int 4) rfl m2 ⟨_, rfl⟩) (pv 5)) (pv 2)) (fun _ _ => rfl)))
        (pe_op op_rep (pe_lst (pa_cons (pe_ix ix_list (pv 3) (pe_op op_add (pe_glob (v := .int 32) rfl m3 ⟨_, rfl⟩) (pv 2)) (fun _ _ => rfl)) pa_nil)) (pv 4))))), ?_⟩
    have hB := B.len
    refine ⟨_, rfl, sq, rfl, Nat.le_trans (sq_bits hsq) (by decide), _, _, rfl, rfl, ⟨by decide, by decide⟩, ?_⟩
    have est : ((Eh.root sq : Nat) : Int) / 1024 = ((Eh.root sq / 1024 : Nat) : Int) := by rw [Int.natCast_ediv]; rfl
    have hst := steps_le hsq
    refine ⟨_, rfl, l, rfl, ⟨_, sl⟩, fun D hD => lc_list (K := K) (a := l) (xs := natV sts) (fun i H' => Same H H' ∧ H' D = some (.lst (natV ((sts.take i).map fun st => (bs.getD (4 * st + band) 0).toNat)))) ?_ (fun i H' _ ⟨e, _⟩ => e.seq sl) ?_ ?_⟩
    · exact ⟨Same.set hD (Same.refl H), upd_same⟩
    · rintro i x H' hi ⟨e1, hacc⟩
      have hin : i < sts.length := by have := (List.getElem?_eq_some_iff.1 hi).1; rwa [natV_len] at this
      have gst : sts[i]? = some (sts[i]'hin) := List.getElem?_eq_getElem hin
      have hx := natV_get gst
      rw [hx] at hi
      cases hi
      have l7 := h7 _ (List.mem_of_getElem? gst)
      refine ⟨rfl, ?_⟩
      refine ⟨_, rfl, _, rfl, _, _, rfl, rfl, ⟨by decide, Nat.le_trans (ib_of (show sts[i]'hin < 2 ^ 4 by trivial)) (by decide)⟩, _, rfl, _, _, rfl, rfl, _, _, _, _, rfl, rfl, e1.seq sb, at_of (j := 4 * (sts[i]'hin) + band) (by trivial) (room_at (by trivial)), _, hacc, ?_, Same.set hD e1, ?_⟩
      · rw [natV_len, List.length_map, List.length_take]
        exact Nat.lt_of_le_of_lt (Nat.min_le_left _ _) (Nat.lt_of_lt_of_le (show i < 100 by trivial) (by decide))
      · rw [upd_same, List.take_succ, gst, List.map_append]
        show some (HO.lst (natV ((sts.take i).map fun st => (bs.getD (4 * st + band) 0).toNat) ++ [L2.V.int (bs.getD (4 * (sts[i]'hin) + band) 0)])) = some (HO.lst (natV ((sts.take i).map (fun st => (bs.getD (4 * st + band) 0).toNat) ++ [(bs.getD (4 * (sts[i]'hin) + band) 0).toNat])))
        rw [natV_snoc, B.nat]
    · rintro H' ⟨e1, hacc⟩
      rw [natV_len, List.take_length] at hacc
      refine ⟨_, rfl, _, rfl, _, _, rfl, rfl, _, _, _, _, rfl, rfl, e1.seq sb, at_of (j := 32 + band) (by trivial) (room_at (by trivial)), (by show 1 ≤ sizeLine; decide), fun p hp => ?_⟩
      have e2 := Same.upd (Same.refl H') hp (o := .lst [.int (bs.getD (32 + band) 0)])
      refine ⟨_, rfl, p, _, _, rfl, rfl, upd_same, ?_, ?_, ?_, fun q hq => ?_⟩
      · show -(2 ^ 63) ≤ ((Eh.root sq : Nat) : Int) / 1024
        rw [est]; trivial
      · show ((Eh.root sq : Nat) : Int) / 1024 < 2 ^ 63
        rw [est]; trivial
      · show 1 * (((Eh.root sq : Nat) : Int) / 1024).toNat ≤ sizeLine
        rw [est, Int.toNat_natCast, sizeLine_eq]; trivial
      · have e3 := Same.upd e2 hq (o := .lst (List.replicate (((Eh.root sq : Nat) : Int) / 1024).toNat [L2.V.int (bs.getD (32 + band) 0)]).flatten)
        refine ⟨D, q, _, _, rfl, rfl, e3 _ _ hacc, upd_same, ?_, fun r hr2 => ?_⟩
        · rw [natV_len, List.length_map, rep_flat, List.length_replicate, est, Int.toNat_natCast, sizeLine_eq]; trivial
        · refine k _ r (Same.upd (Same.trans e1 e3) hr2) ?_
          rw [upd_same, rep_flat, est, Int.toNat_natCast]
          unfold Geo.partsM natV
          rw [List.map_append, List.map_replicate, B.nat]
theorem ok_gn (F : Fun K "gain" "gain" st_gain f fd) (T : Txt mg) (TL : TxtL mg) (TB : TxtB mg) (CP : Cal P w K mg base 2 "parts_left" ["stuffs", "square", "band", "book"] (spPl K)) (CR : Cal P w K mg base 1 "root" ["number"] spRt) :
    FnOk P w K mg base CX0 3 f fd ["stuffs", "square", "band", "book"] (spGn K) := by
  obtain ⟨fP, fdP, GP, mP, kP, bP⟩ := CP.ex
  obtain ⟨fR, fdR, GR, mR, kR, bR⟩ := CR.ex
  obtain ⟨t1, m1⟩ := TL.near
  obtain ⟨t2, m2⟩ := TB.whole
  refine F.ok scGn (fun vs H Q E h => ?_) (fun cdv A outer s0 H vs Q E hr h => ?_)
  · obtain ⟨v1, v4, sts, sq, band, bs, rfl, _⟩ := h
    rfl
  · obtain ⟨v1, v4, sts, sq, band, bs, rfl, hst, h7, h10, hsq, hb, hbk, B, k⟩ := h
    have hr1 : Room 1 _ := hr.mono (by decide)
    refine ⟨_, pss_cons (ps_set (i := 4) scGn.nd rfl (Or.inl rfl) (pe_glob (v := .int 4294967296) rfl m1 ⟨_, rfl⟩))
      (pss_cons (ps_set (i := 5) scGn.nd rfl (Or.inl rfl) pe_int)
      (pss_cons (ps_for PassesOwn.never rfl (pi_list (pe_call GP hr rfl mP kP bP .nil pass0 (pa_cons (pv 0) (pa_cons (pv 1) (pa_cons (pv 2) (pa_cons (pv 3) pa_nil)))))) (pg_name (i := 6) scGn.nd rfl (Or.inl rfl))
        (pss_cons (ps_set (i := 4) scGn.nd rfl (Or.inl rfl) (pe_op op_mulB (pv 4) (pv 6))) (pss_one (ps_set (i := 5) scGn.nd rfl (Or.inl rfl) (pe_op op_mulB (pv 5) (pe_glob (v := .int 32768) rfl m2 ⟨_, rfl⟩))))))
      (pss_cons (ps_set (i := 7) scGn.nd rfl (Or.inl rfl) (pe_call GR hr1 rfl mR kR bR .nil pass0 (pa_cons (pe_op op_fdivB (pe_op op_mulB (pe_op op_mulB pe_int (pv 4)) (pv 4)) (pe_op op_mulB (pe_op op_mulB (pv 5) (pv 5)) (pe_callB (call_max2 rfl) (by rfl) T.max boot_max (pa_cons (pv 1) (pa_cons pe_int pa_nil))))) pa_nil)))
      (pss_one (ps_ret (pe_op op_fdiv (pe_op op_add (pv 7) pe_int) pe_int)))))), ?_⟩
    refine ⟨_, rfl, _, rfl, _, rfl, _, rfl, v1, v4, sts, sq, band, bs, rfl, hst, h7, h10, hsq, hb, hbk, B, fun H1 l e1 hl => ?_⟩
    have hpl : (Geo.partsM sts sq band bs).length ≤ 80 := by
      unfold Geo.partsM
      rw [List.length_append, List.length_map, List.length_replicate]
      have := steps_le hsq
      trivial
    have hph : ∀ x ∈ Geo.partsM sts sq band bs, x ≤ 32768 := by
      intro x hx
      unfold Geo.partsM at hx
      rcases List.mem_append.1 hx with hx | hx
      · rw [List.mem_map] at hx
        obtain ⟨st, _, rfl⟩ := hx
        have := B.hi (4 * st + band)
        trivial
      · rw [List.mem_replicate] at hx
        rw [hx.2]
        have := B.hi (32 + band)
        trivial
    generalize hPM : Geo.partsM sts sq band bs = pm at *
    refine ⟨l, rfl, ⟨_, SqL.of hl⟩, for_list (K := K) (a := l) (xs := natV pm) (fun i σ H' => H' = H1 ∧ (∃ y6 y7, σ = [some v1, some (.int ((sq : Nat) : Int)), some (.int ((band : Nat) : Int)), some v4, some (.int ((2 ^ 32 * Geo.prodN (pm.take i) : Nat) : Int)), some (.int ((32768 ^ i : Nat) : Int)), y6, y7]) ∧
      ib ((2 ^ 32 * Geo.prodN (pm.take i) : Nat) : Int) ≤ 40 + 16 * i ∧ ib ((32768 ^ i : Nat) : Int) ≤ 1 + 16 * i) ⟨rfl, ⟨_, _, rfl⟩, ?_, ?_⟩ (fun i σ H' _ ⟨e, _⟩ => by rw [e]; exact SqL.of hl) ?_ ?_⟩
    · exact Nat.le_trans (show ib ((2 ^ 32 * Geo.prodN (pm.take 0) : Nat) : Int) ≤ 33 by rw [List.take_zero]; decide) (by trivial)
    · show ib ((32768 ^ 0 : Nat) : Int) ≤ 1 + 16 * 0
      decide
    · rintro i x σ H' hi ⟨rfl, ⟨y6, y7, rfl⟩, b1, b2⟩
      have hin : i < pm.length := by have := (List.getElem?_eq_some_iff.1 hi).1; rwa [natV_len] at this
      have gp : pm[i]? = some (pm[i]'hin) := List.getElem?_eq_getElem hin
      rw [natV_get gp] at hi
      cases hi
      have hx := hph _ (List.mem_of_getElem? gp)
      have bx : ib ((pm[i]'hin : Nat) : Int) ≤ 16 := ib_of (Nat.lt_of_le_of_lt hx (by decide))
      have ep : Geo.prodN (pm.take (i + 1)) = Geo.prodN (pm.take i) * (pm[i]'hin) := by
        rw [List.take_succ, gp]
        exact prodN_snoc _ _
      have e4 : ((2 ^ 32 * Geo.prodN (pm.take (i + 1)) : Nat) : Int) = ((2 ^ 32 * Geo.prodN (pm.take i) : Nat) : Int) * ((pm[i]'hin : Nat) : Int) := by
        rw [ep, ← Nat.mul_assoc, Int.natCast_mul]
      have e5 : ((32768 ^ (i + 1) : Nat) : Int) = ((32768 ^ i : Nat) : Int) * 32768 := by
        rw [Nat.pow_succ, Int.natCast_mul]; rfl
      refine ⟨_, rfl, _, rfl, _, _, rfl, rfl, ⟨le6 b1 (by trivial), le6 bx (by decide)⟩, _, rfl, _, _, rfl, rfl, ⟨le6 b2 (by trivial), by decide⟩, rfl, ⟨some (.int ((pm[i]'hin : Nat) : Int)), y7, ?_⟩, ?_, ?_⟩
      · rw [e4, e5]; rfl
      · rw [e4]; exact Nat.le_trans (intBits_mul_le b1 bx) (by trivial)
      · rw [e5]; exact Nat.le_trans (intBits_mul_le b2 (show ib 32768 ≤ 16 by decide)) (by trivial)
    · rintro σ H' ⟨rfl, ⟨y6, y7, rfl⟩, b1, b2⟩
      rw [natV_len] at b1 b2
      rw [natV_len, List.take_length]
      rw [List.take_length] at b1
      have kk := k _ e1
      unfold Geo.gainM Eh.nearestOverRoot at kk
      rw [hPM] at kk
      have c1 : ib ((2 ^ 32 * Geo.prodN pm : Nat) : Int) ≤ 1400 := Nat.le_trans b1 (by trivial)
      have c2 : ib ((32768 ^ pm.length : Nat) : Int) ≤ 1300 := Nat.le_trans b2 (by trivial)
      have dpos : 0 < 32768 ^ pm.length := Nat.pow_pos (by trivial)
      generalize 2 ^ 32 * Geo.prodN pm = nn at *
      generalize 32768 ^ pm.length = dd at *
      have emax : (if (1 : Int) > (sq : Int) then (1 : Int) else (sq : Int)) = ((max sq 1 : Nat) : Int) := by split <;> trivial
      have bmax : ib ((max sq 1 : Nat) : Int) ≤ 33 := ib_of (Nat.lt_of_le_of_lt (show max sq 1 ≤ 5100000000 by trivial) (by decide))
      have b4 : ib (4 * (nn : Int)) ≤ 1403 := Nat.le_trans (intBits_mul_le (show ib 4 ≤ 3 by decide) c1) (by decide)
      have b5 : ib (4 * (nn : Int) * (nn : Int)) ≤ 2803 := Nat.le_trans (intBits_mul_le b4 c1) (by decide)
      have b6 : ib ((dd : Int) * (dd : Int)) ≤ 2600 := Nat.le_trans (intBits_mul_le c2 c2) (by decide)
      have eN : 4 * (nn : Int) * (nn : Int) = ((4 * nn * nn : Nat) : Int) := by rw [Int.natCast_mul, Int.natCast_mul]; rfl
      have eD : (dd : Int) * (dd : Int) * ((max sq 1 : Nat) : Int) = ((dd * dd * max sq 1 : Nat) : Int) := by rw [Int.natCast_mul, Int.natCast_mul]
      have b7 : ib ((dd : Int) * (dd : Int) * ((max sq 1 : Nat) : Int)) ≤ 2700 := Nat.le_trans (intBits_mul_le b6 bmax) (by decide)
      have dp : 0 < dd * dd * max sq 1 := Nat.mul_pos (Nat.mul_pos dpos dpos) (by trivial)
      have eq : 4 * (nn : Int) * (nn : Int) / ((dd : Int) * (dd : Int) * ((max sq 1 : Nat) : Int)) = ((4 * nn * nn / (dd * dd * max sq 1) : Nat) : Int) := by rw [eN, eD, Int.natCast_ediv]
      have bq : ib ((4 * nn * nn / (dd * dd * max sq 1) : Nat) : Int) ≤ 8000 := by
        rw [eN] at b5
        exact Nat.le_trans (ib_le (Nat.div_le_self _ _) b5) (by decide)
      refine ⟨_, rfl, _, _, rfl, rfl, ⟨by decide, le6 c1 (by decide)⟩, _, rfl, _, _, rfl, rfl, ⟨le6 b4 (by decide), le6 c1 (by decide)⟩, _, rfl, _, rfl, _, _, rfl, rfl, ⟨le6 c2 (by decide), le6 c2 (by decide)⟩, _, rfl, _, _, rfl, ?_⟩
      rw [emax]
      refine ⟨_, _, rfl, rfl, ⟨le6 b6 (by decide), le6 bmax (by decide)⟩, _, _, rfl, rfl, ⟨by rw [eD]; trivial, Nat.le_trans b7 (by decide)⟩, 4 * nn * nn / (dd * dd * max sq 1), ?_, bq, ?_⟩
      · show [L2.V.int (4 * (nn : Int) * (nn : Int) / ((dd : Int) * (dd : Int) * ((max sq 1 : Nat) : Int)))] ++ [] = _
        rw [eq]; rfl
      · refine ⟨_, rfl, _, _, rfl, rfl, _, _, rfl, rfl, ⟨by decide, by decide⟩, ?_⟩
        have e9 : ((Eh.root (4 * nn * nn / (dd * dd * max sq 1)) : Nat) : Int) + 1 = (((Eh.root (4 * nn * nn / (dd * dd * max sq 1)) + 1 : Nat)) : Int) := by trivial
        show Q (.int ((((Eh.root (4 * nn * nn / (dd * dd * max sq 1)) : Nat) : Int) + 1) / 2)) _
        rw [e9, show ((((Eh.root (4 * nn * nn / (dd * dd * max sq 1)) + 1 : Nat)) : Int) / 2) = (((Eh.root (4 * nn * nn / (dd * dd * max sq 1)) + 1) / 2 : Nat) : Int) by rw [Int.natCast_ediv]; rfl]
        exact kk
theorem ok_en (F : Fun K "energy_of" "energy_of" st_energy_of f fd) (CG : Cal P w K mg base 3 "gain" ["stuffs", "square", "band", "book"] (spGn K)) :
    FnOk P w K mg base CX0 4 f fd ["paths", "band", "stuffs", "book"] (spEn K) := by
  obtain ⟨fG, fdG, GG, mG, kG, bG⟩ := CG.ex
  refine F.ok scEn (fun vs H Q E h => ?_) (fun cdv A outer s0 H vs Q E hr h => ?_)
  · obtain ⟨lp, ls, v4, ys, rs, band, ns, bs, rfl, _⟩ := h
    rfl
  · obtain ⟨lp, ls, v4, ys, rs, band, ns, bs, rfl, sl, hps, RO, ss, h7, hb, hbk, B, k⟩ := h
    refine ⟨_, pss_cons (ps_set (i := 4) scEn.nd rfl (Or.inl rfl) pe_int)
      (pss_cons (ps_for PassesOwn.never rfl (pi_list (pv 0)) (pgt (K := K) (n := 2) rfl rfl (pgs_cons (pg_name (i := 5) scEn.nd rfl (Or.inl rfl)) (pgs_cons (pg_name (i := 6) scEn.nd rfl (Or.inl rfl)) pgs_nil)))
        (pss_one (ps_aug (i := 4) scEn.nd rfl (Or.inl rfl) (pe_op op_powB (pe_call GG hr rfl mG kG bG .nil pass0
          (pa_cons (pe_lc (own := [("wall", 7)]) rfl scEn.nd (pi_tup (pv 5)) (blkOk_by blkEn) (fun _ _ _ _ _ => pg_name (i := 7) scEn.nd rfl (Or.inl rfl)) (fun _ _ _ _ _ => pts_nil) (fun _ _ _ _ _ => pe_ix (ixl (K := K) rfl) (pv 2) (pv 7) (fun _ _ => rfl)))
          (pa_cons (pv 6) (pa_cons (pv 1) (pa_cons (pv 3) pa_nil))))) pe_int) ip_add)))
      (pss_one (ps_ret (pv 4)))), ?_⟩
    refine ⟨_, rfl, lp, rfl, ⟨_, sl⟩, for_list (K := K) (a := lp) (xs := ys) (fun i σ H' => Same H H' ∧ ∃ y5 y6 y7, σ = [some (.ref lp), some (.int ((band : Nat) : Int)), some (.ref ls), some v4, some (.int ((energyM ns bs band (rs.take i) : Nat) : Int)), y5, y6, y7]) ⟨Same.refl H, _, _, _, rfl⟩ (fun i σ H' _ ⟨e, _⟩ => e.seq sl) ?_ ?_⟩
    · rintro i x σ H' hi ⟨e1, y5, y6, y7, rfl⟩
      have hin : i < rs.length := by rw [← hps.1]; exact (List.getElem?_eq_some_iff.1 hi).1
      have gr : rs[i]? = some (rs[i]'hin) := List.getElem?_eq_getElem hin
      have hmem := List.mem_of_getElem? gr
      have hpa := (hps.2 i x _ hi gr).mono e1
      have w1 := RO.wall _ hmem
      have w2 := RO.len _ hmem
      have w3 := RO.lo _ hmem
      have w4 := RO.hi _ hmem
      have etake : rs.take (i + 1) = rs.take i ++ [rs[i]'hin] := by rw [List.take_succ, gr]; rfl
      generalize rs[i]'hin = r at *
      obtain ⟨row, s2⟩ := r
      obtain ⟨sq, rfl⟩ : ∃ sq : Nat, s2 = (sq : Int) := ⟨s2.toNat, (Int.toNat_of_nonneg w3).symm⟩
      have w2' : row.length ≤ 10 := w2
      obtain ⟨t, vr, rfl, q1, tr, rfl, sr⟩ := hpa
      refine ⟨t, _, rfl, q1, rfl, _, _, rfl, _, _, rfl, rfl, ?_⟩
      refine ⟨_, rfl, _, rfl, tr, rfl, ⟨_, sr⟩, fun D hD => lc_tup (K := K) (a := tr) (xs := rowV row) (fun m H2 => Same H' H2 ∧ H2 D = some (.lst (natV ((row.take m).map (Geo.stuffN ns))))) ?_ (fun m H2 _ ⟨e2, _⟩ => Same.tup e2 sr) ?_ ?_⟩
      · exact ⟨Same.set hD (Same.refl H'), upd_same⟩
      · rintro m y H2 hm ⟨e2, hacc⟩
        have hmn : m < row.length := by have := (List.getElem?_eq_some_iff.1 hm).1; rwa [rowV_len] at this
        have gm : row[m]? = some (row[m]'hmn) := List.getElem?_eq_getElem hmn
        have hw := w1 _ (List.mem_of_getElem? gm)
        rw [rowV_get gm] at hm
        cases hm
        have et : (row.take (m + 1)).map (Geo.stuffN ns) = (row.take m).map (Geo.stuffN ns) ++ [Geo.stuffN ns (row[m]'hmn)] := by rw [List.take_succ, gm, List.map_append]; rfl
        generalize row[m]'hmn = j at *
        refine ⟨rfl, ?_⟩
        refine ⟨_, rfl, _, rfl, _, _, _, _, rfl, rfl, (Same.trans e1 e2).seq ss, at_of (j := j) rfl (natV_get (j := Geo.stuffN ns j) (by rw [List.getElem?_map, List.getElem?_range hw]; rfl)), _, hacc, ?_, Same.set hD e2, ?_⟩
        · rw [natV_len, List.length_map, List.length_take]
          exact Nat.lt_of_le_of_lt (Nat.min_le_left _ _) (Nat.lt_of_lt_of_le (show m < 100 by trivial) (by decide))
        · rw [upd_same, et, natV_snoc]
      · rintro H2 ⟨e2, hacc⟩
        rw [rowV_len, List.take_length] at hacc
        have e02 := Same.trans e1 e2
        have hsq : sq ≤ 5100000000 := by trivial
        have hg := Geo.gainM_le (parts_le B (row.map (Geo.stuffN ns)) sq band)
        refine ⟨_, rfl, _, rfl, _, rfl, _, v4, row.map (Geo.stuffN ns), sq, band, bs, rfl, ⟨D, rfl, SqL.of hacc⟩, fun j hj => ?_, by rw [List.length_map]; exact w2, hsq, hb, hbk.mono e02, B, fun H3 e3 => ?_⟩
        · rw [List.mem_map] at hj
          obtain ⟨a, _, rfl⟩ := hj
          exact h7 a
        · have een : energyM ns bs band (rs.take (i + 1)) = energyM ns bs band (rs.take i) + Geo.gainM (row.map (Geo.stuffN ns)) sq band bs * Geo.gainM (row.map (Geo.stuffN ns)) sq band bs := by
            rw [etake]
            unfold energyM
            rw [List.map_append, List.map_singleton, squares_snoc, Int.toNat_natCast]
          generalize Geo.gainM (row.map (Geo.stuffN ns)) sq band bs = g at *
          have bg : ib ((g : Nat) : Int) ≤ 33 := ib_of (Nat.lt_of_le_of_lt hg (by decide))
          refine ⟨_, _, rfl, rfl, ⟨by decide, ?_⟩, _, _, rfl, rfl, Same.trans e02 e3, some (.ref tr), some (.int ((sq : Nat) : Int)), y7, ?_⟩
          · have : (ib ((g : Nat) : Int) : Int) ≤ 33 := by exact_mod_cast bg
            trivial
          · have e5 : ((energyM ns bs band (rs.take (i + 1)) : Nat) : Int) = ((energyM ns bs band (rs.take i) : Nat) : Int) + ((g : Nat) : Int) ^ (2 : Int).toNat := by
              rw [een, Int.natCast_add, Int.natCast_mul]
              show _ = _ + ((g : Nat) : Int) ^ 2
              rw [Int.pow_succ, Int.pow_succ, Int.pow_zero, Int.one_mul]
            rw [e5]
            rfl
    · rintro σ H' ⟨e1, y5, y6, y7, rfl⟩
      refine ⟨_, rfl, ?_⟩
      rw [hps.1, List.take_length]
      exact k _ e1
theorem ok_eo (F : Fun K "energies_over" "energies_over" st_energies_over f fd) (T : Txt mg) (C1 : Cal P w K mg base 2 "lines_of" ["room"] (spLines K)) (C4 : Cal P w K mg base 6 "paths_over" ["s", "places", "most", "room"] (spPv K)) (C5 : Cal P w K mg base 1 "stuffs_of" ["room"] (spSt K))
    (C6 : Cal P w K mg base 4 "is_inside" ["p", "height", "lines"] (spIn K)) (C7 : Cal P w K mg base 4 "energy_of" ["paths", "band", "stuffs", "book"] (spEn K)) : FnOk P w K mg base CX0 7 f fd ["s", "places", "most", "band", "room", "book"] (spEo K) := by
  obtain ⟨f1, fd1, G1, m1, k1, b1⟩ := C1.ex
  obtain ⟨f4, fd4, G4, m4, k4, b4⟩ := C4.ex
  obtain ⟨f5, fd5, G5, m5, k5, b5⟩ := C5.ex
  obtain ⟨f6, fd6, G6, m6, k6, b6⟩ := C6.ex
  obtain ⟨f7, fd7, G7, m7, k7, b7⟩ := C7.ex
  refine F.ok scEo (fun vs H Q E h => ?_) (fun cdv A outer s0 H vs Q E hr h => ?_)
  · obtain ⟨v1, lp, v5, v6, p, z0, N, c, z, most, band, ns, bs, rfl, _⟩ := h
    rfl
  · obtain ⟨v1, lp, v5, v6, p, z0, N, c, z, most, band, ns, bs, rfl, pp, pz, hP, hN, hR, ef, b200, bc, hm4, hb3, hpow, hBk, B, k⟩ := h
    have hr1 : Room 1 _ := hr.mono (by decide)
    have hr2 : Room 2 _ := hr.mono (by decide)
    have hr4 : Room 4 _ := hr.mono (by decide)
    refine ⟨_, pss_cons (ps_if (pt_not (pt_val (pe_call G6 hr4 rfl m6 k6 b6 .nil pass0 (pa_cons (pv 0) (pa_cons (pe_ix ix_list (pv 4) pe_int (fun _ _ => rfl)) (pa_cons (pe_call G1 hr2 rfl m1 k1 b1 .nil pass0 (pa_cons (pv 4) pa_nil)) pa_nil))))))
        (pss_one (ps_ret (pe_op op_rep (pe_lst (pa_cons pe_int pa_nil)) (pe_callB call_len_seq (by rfl) T.len PySem.boot_len (pa_cons (pv 1) pa_nil))))) pss_nil)
      (pss_cons (ps_set (i := 6) scEo.nd rfl (Or.inr rfl) (pe_call G5 hr1 rfl m5 k5 b5 .nil pass0 (pa_cons (pv 4) pa_nil)))
      (pss_one (ps_ret (pe_lc (own := [("paths", 7)]) rfl scEo.nd (pi_list (pe_call G4 hr rfl m4 k4 b4 .nil pass0 (pa_cons (pv 0) (pa_cons (pv 1) (pa_cons (pv 2) (pa_cons (pv 4) pa_nil)))))) (blkOk_by blkEo)
        (fun _ _ _ _ _ => pg_name (i := 7) scEo.nd rfl (Or.inl rfl)) (fun _ _ _ _ _ => pts_nil)
        (fun _ _ _ _ _ => pe_ifExp (pt_cmpR op_isN (pv 7) pe_non (nomark _)) pe_int (pe_call G7 hr4 rfl m7 k7 b7 .nil pass0 (pa_cons (pv 7) (pa_cons (pv 3) (pa_cons (pv 6) (pa_cons (pv 5) pa_nil)))))))))), ?_⟩
    obtain ⟨S, hn, h3, h64, hc, hh⟩ := small_room ef
    have h7 : ∀ j, Geo.stuffN ns j ≤ 7 := fun j => (Geo.stuff_eq hc hh h3 j).2
    have none_of : ∀ {H2 : Hp} {a : Addr}, Same H H2 → H2 a = none → H a = none := fun {H2 a} e ha => by
      cases hh : H a with
      | none => rfl
      | some o => rw [e _ _ hh] at ha; cases ha
    obtain ⟨lr, rfl, sr⟩ := hR
    refine ⟨_, rfl, _, rfl, _, _, _, _, rfl, rfl, sr, at0 (room_at (by trivial)), _, rfl, _, ns, Geo.cn ns, rfl, ⟨lr, rfl, sr⟩, hn, by trivial, h64, fun H1 xl e1 hL => ?_⟩
    refine ⟨_, _, _, _, _, _, _, rfl, pp.mono e1, pz.mono e1, ⟨Nat.le_trans b200.x (by decide), Nat.le_trans b200.y (by decide)⟩, hL, S, _, rfl, iteB (fun ei => ?_) (fun ei => ?_)⟩
    · rw [Bool.not_eq_true'] at ei
      obtain ⟨vs, hvs, hvl, _⟩ := hP
      refine ⟨(by show 1 ≤ sizeLine; decide), fun l0 hl0 => ?_⟩
      have e2 := Same.upd e1 hl0 (o := .lst [.int 0])
      refine ⟨_, rfl, lp, vs, rfl, .inl (SqL.of (e2 _ _ hvs)), ?_⟩
      rw [hvl]
      refine ⟨l0, (N : Int), [.int 0], rfl, rfl, upd_same, by trivial, by trivial, ?_, fun q hq => k _ q (Same.upd e2 hq) (none_of e2 hq) ?_⟩
      · rw [Int.toNat_natCast]
        exact Nat.le_trans (show 1 * N ≤ 256 by trivial) (by decide)
      · rw [upd_same, Int.toNat_natCast, nat_zeros (g := fun k => enN ns bs most band p z0 (c k) (z k)) (fun k => by unfold enN; rw [if_neg (by rw [ei]; simp)])]
    · rw [Bool.not_eq_false'] at ei
      refine ⟨_, rfl, _, ns, rfl, ⟨lr, rfl, e1.seq sr⟩, ef, fun H2 ls e2 hls => ?_⟩
      have e02 := Same.trans e1 e2
      obtain ⟨vs, hvs, hvl, hvp⟩ := hP
      refine ⟨_, rfl, _, rfl, _, rfl, _, rfl, _, lp, _, p, z0, N, c, z, most, ns, rfl, pp.mono e02, pz.mono e02, ⟨vs, e02 _ _ hvs, hvl, fun i x' h' => ⟨(hvp i x' h').1.mono e02, (hvp i x' h').2.mono e02⟩⟩, hN, ⟨lr, rfl, e02.seq sr⟩, ef, b200, bc, hm4, hpow, fun H5 l5 ys e5 _ hl5 hyl hys => ?_⟩
      have e05 := Same.trans e02 e5
      refine ⟨l5, rfl, ⟨ys, SqL.of hl5⟩, fun D hD => lc_list (K := K) (a := l5) (xs := ys) (fun i H' => Same H5 H' ∧ H' D = some (.lst (natV ((List.range i).map fun k => enN ns bs most band p z0 (c k) (z k))))) ?_ (fun i H' _ ⟨e6, _⟩ => SqL.of (e6 _ _ hl5)) ?_ ?_⟩
      · exact ⟨Same.set hD (Same.refl _), upd_same⟩
      · rintro i xi H' hi ⟨e6, hacc⟩
        have hin : i < N := by rw [← hyl]; exact (List.getElem?_eq_some_iff.1 hi).1
        have hpo := (hys i xi hi).2.mono e6
        have hlt : (natV ((List.range i).map fun k => enN ns bs most band p z0 (c k) (z k))).length < sizeLine := by
          rw [natV_len, List.length_map, List.length_range]
          exact Nat.lt_of_lt_of_le (show i < 300 by trivial) (by decide)
        have fin : ∀ (H8 : Hp) (e : Nat), Same H' H8 → e = enN ns bs most band p z0 (c i) (z i) → Same H5 (L2.upd H8 D (.lst (natV ((List.range i).map fun k => enN ns bs most band p z0 (c k) (z k)) ++ [.int (e : Int)]))) ∧
            (L2.upd H8 D (.lst (natV ((List.range i).map fun k => enN ns bs most band p z0 (c k) (z k)) ++ [.int (e : Int)]))) D = some (.lst (natV ((List.range (i + 1)).map fun k => enN ns bs most band p z0 (c k) (z k)))) := by
          intro H8 e e8 he
          subst he
          refine ⟨Same.set hD (Same.trans e6 e8), ?_⟩
          rw [upd_same, List.range_succ, List.map_append, List.map_cons, List.map_nil, natV_snoc]
        have een : enN ns bs most band p z0 (c i) (z i) = match placeO ns ⟨p.1, p.2, z0, 1⟩ (c i) (z i) most with
            | some rs => energyM ns bs band rs
            | none => 0 := if_pos ei
        refine ⟨rfl, ?_⟩
        refine ⟨_, rfl, rfl, _, rfl, ?_⟩
        cases eo : placeO ns ⟨p.1, p.2, z0, 1⟩ (c i) (z i) most with
        | none =>
          rw [eo] at hpo een
          have hx' : xi = .non := hpo
          subst hx'
          rw [decide_eq_true (show L2.V.non = L2.V.non from rfl)]
          refine iteT ?_
          exact ⟨_, hacc, hlt, fin H' 0 (Same.refl H') een.symm⟩
        | some rs =>
          rw [eo] at hpo een
          obtain ⟨hrs, hrl⟩ := rs_ok ef ei b200 hm4 hpow eo
          obtain ⟨l7, y7, rfl, h7', p7⟩ := hpo
          rw [decide_eq_false (show ¬ L2.V.ref l7 = L2.V.non by intro q; cases q)]
          refine iteF ?_
          refine ⟨_, rfl, _, rfl, _, rfl, _, rfl, l7, ls, v6, y7, rs, band, ns, bs, rfl, SqL.of h7', p7, hrs, SqL.of ((Same.trans e5 e6) _ _ hls), h7, hb3, (hBk.mono e05).mono e6, B, fun H8 e8 => ?_⟩
          exact ⟨_, e8 _ _ hacc, hlt, fin H8 _ e8 een.symm⟩
      · rintro H' ⟨e6, hacc⟩
        rw [hyl] at hacc
        exact k _ D (Same.trans e05 e6) (none_of e05 hD) hacc
theorem ok_le (F : Fun K "level" "level" st_level f fd) (TM : TxtM mg) (TBd : TxtBd mg) (C1 : Cal P w K mg base 7 "refusal" ["s", "is_right", "room", "book"] (spRe K)) (C2 : Cal P w K mg base 1 "is_grid_right" ["nx", "ny"] spGrid)
    (C3 : Cal P w K mg base 1 "grid_places" ["x", "y", "z", "dx", "dy", "nx", "ny"] (spGP K)) (C4 : Cal P w K mg base 7 "energies_over" ["s", "places", "most", "band", "room", "book"] (spEo K)) (C6 : Cal P w K mg base 1 "level_of" ["energy"] spLv) :
    FnOk P w K mg base CX0 8 f fd ["sx", "sy", "sz", "x", "y", "z", "dx", "dy", "nx", "ny", "most", "band", "room", "book"] (spLe K) := by
  obtain ⟨f1, fd1, G1, m1, k1, b1⟩ := C1.ex
  obtain ⟨f2, fd2, G2, m2, k2, b2⟩ := C2.ex
  obtain ⟨f3, fd3, G3, m3, k3, b3⟩ := C3.ex
  obtain ⟨f4, fd4, G4, m4, k4, b4⟩ := C4.ex
  obtain ⟨f6, fd6, G6, m6, k6, b6⟩ := C6.ex
  obtain ⟨tt, mt⟩ := TM.turns
  obtain ⟨tb, mb⟩ := TBd.band
  refine F.ok scLe (fun vs H Q E h => ?_) (fun cdv A outer s0 H vs Q E hr h => ?_)
  · obtain ⟨sx, sy, sz, x, y, z, dx, dy, nx, ny, most, band, v, vb, ns, bs, rfl, _⟩ := h
    rfl
  · obtain ⟨sx, sy, sz, x, y, z, dx, dy, nx, ny, most, band, v, vb, ns, bs, rfl, hR, hBk, h0, hB, hpow, k⟩ := h
    have hr1 : Room 1 _ := hr.mono (by decide)
    refine ⟨_, pss_cons (ps_set (i := 14) scLe.nd rfl (Or.inl rfl) (pe_tup (pa_cons (pv 0) (pa_cons (pv 1) (pa_cons (pv 2) pa_nil)))))
      (pss_cons (ps_set (i := 15) scLe.nd rfl (Or.inl rfl) (pe_and (pe_call G2 hr1 rfl m2 k2 b2 .nil pass0 (pa_cons (pv 8) (pa_cons (pv 9) pa_nil))) (pe_and (pe_cmpR op_le (pv 10) (pe_glob (v := .int 4) rfl mt ⟨_, rfl⟩) (nomark _)) (pe_one (pe_cmpR op_le (pv 11) (pe_glob (v := .int 3) rfl mb ⟨_, rfl⟩) (nomark _))))))
      (pss_cons (ps_set (i := 16) scLe.nd rfl (Or.inl rfl) (pe_call G1 hr rfl m1 k1 b1 .nil pass0 (pa_cons (pv 14) (pa_cons (pv 15) (pa_cons (pv 12) (pa_cons (pv 13) pa_nil))))))
      (pss_cons (ps_if (pt_cmpR op_notN (pv 16) pe_non (nomark _)) (pss_one (ps_ret (pv 16))) pss_nil)
      (pss_cons (ps_set (i := 17) scLe.nd rfl (Or.inl rfl) (pe_call G4 hr rfl m4 k4 b4 .nil pass0 (pa_cons (pv 14) (pa_cons (pe_call G3 hr1 rfl m3 k3 b3 .nil pass0 (pa_cons (pv 3) (pa_cons (pv 4) (pa_cons (pv 5) (pa_cons (pv 6) (pa_cons (pv 7) (pa_cons (pv 8) (pa_cons (pv 9) pa_nil)))))))) (pa_cons (pv 10) (pa_cons (pv 11) (pa_cons (pv 12) (pa_cons (pv 13) pa_nil))))))))
      (pss_one (ps_ret (pe_op op_cat (pe_lst (pa_cons pe_int pa_nil)) (pe_lc (own := [("energy", 18)]) rfl scLe.nd (pi_list (pv 17)) (blkOk_by blkLe) (fun _ _ _ _ _ => pg_name (i := 18) scLe.nd rfl (Or.inl rfl)) (fun _ _ _ _ _ => pts_nil)
        (fun _ _ _ _ _ => pe_call G6 hr1 rfl m6 k6 b6 .nil pass0 (pa_cons (pv 18) pa_nil)))))))))), ?_⟩
    have bsx : ib sx ≤ 150 := hB.all _ (by simp)
    have bsy : ib sy ≤ 150 := hB.all _ (by simp)
    have bsz : ib sz ≤ 150 := hB.all _ (by simp)
    have bx : ib x ≤ 150 := hB.all _ (by simp)
    have by_ : ib y ≤ 150 := hB.all _ (by simp)
    have bz : ib z ≤ 150 := hB.all _ (by simp)
    have bdx : ib dx ≤ 150 := hB.all _ (by simp)
    have bdy : ib dy ≤ 150 := hB.all _ (by simp)
    unfold levelM at k
    refine ⟨_, rfl, _, rfl, _, rfl, (by show 3 ≤ sizeLine; decide), fun t ht => ?_⟩
    have e1 : Same H (L2.upd H t (.tup [.int sx, .int sy, .int sz])) := Same.upd (Same.refl H) ht
    have hS : PtAt K (L2.upd H t (.tup [.int sx, .int sy, .int sz])) (.ref t) (sx, sy) := ⟨t, _, rfl, SqT.of upd_same, rfl, rfl⟩
    have hSz : CoAt K (L2.upd H t (.tup [.int sx, .int sy, .int sz])) (.ref t) 2 sz := ⟨t, _, rfl, SqT.of upd_same, rfl⟩
    have bS : Bt (sx, sy) := ⟨Nat.le_trans bsx (by decide), Nat.le_trans bsy (by decide)⟩
    have b200 : B4 200 ⟨sx, sy, sz, 1⟩ := ⟨Nat.le_trans bsx (by decide), Nat.le_trans bsy (by decide), Nat.le_trans bsz (by decide), by show ib 1 ≤ 200; decide⟩
    have hR1 := hR.mono e1
    have hK1 := hBk.mono e1
    generalize (L2.upd H t (.tup [.int sx, .int sy, .int sz])) = H1 at *
    refine ⟨_, rfl, _, rfl, nx, ny, rfl, _, rfl, and3 (b := decide ((most : Int) ≤ 4)) (c := decide ((band : Int) ≤ 3)) (fun R q => ⟨_, rfl, _, _, rfl, rfl, q⟩) (fun R q => ⟨_, rfl, _, _, rfl, rfl, q⟩) ?_⟩
    refine ⟨_, rfl, _, rfl, _, rfl, _, rfl, _, v, vb, some ((sx, sy), sz), _, ns, some bs, rfl, ⟨hS, hSz, bS⟩, hR1, hK1, fun H2 xr e2 hxr => ?_⟩
    rw [refO_some] at hxr
    refine ⟨_, rfl, rfl, _, rfl, ?_⟩
    cases er : refM (sx, sy) sz (Geo.gridM nx ny && (decide ((most : Int) ≤ 4) && decide ((band : Int) ≤ 3))) ns (some bs) with
    | some r =>
      rw [er] at hxr k
      obtain ⟨a, rfl, ha⟩ := hxr
      rw [decide_eq_false (show ¬ L2.V.ref a = L2.V.non by intro q; cases q)]
      refine iteT ?_
      exact ⟨_, rfl, k _ a ha⟩
    | none =>
      rw [er] at hxr k
      have hx' : xr = .non := hxr
      subst hx'
      rw [decide_eq_true (show L2.V.non = L2.V.non from rfl)]
      refine iteF ?_
      obtain ⟨ef, eb, eg, hm4, hb3, hin⟩ := ref_ok er
      have B := bok_of h0 eb
      have g := grid_of eg
      have g2 := mul16 g
      refine ⟨_, rfl, _, rfl, _, rfl, _, rfl, _, rfl, _, rfl, _, rfl, _, rfl, x, y, z, dx, dy, nx, ny, rfl, eg, ⟨bdx, bdy⟩, fun H5 lp e5 _ hP => ?_⟩
      have e15 := Same.trans e2 e5
      refine ⟨_, rfl, _, rfl, _, rfl, _, rfl, _, lp, v, vb, (sx, sy), sz, (nx * ny).toNat, Geo.placeM x y dx dy nx, fun _ => z, most, band, ns, bs, rfl, hS.mono e15, hSz.mono e15, hP, by trivial, hR1.mono e15, ef, b200, fun i hi => ?_, hm4, hb3, hpow eg hm4 hb3, hK1.mono e15, B, fun H6 l6 e6 _ hl6 => ?_⟩
      · have := placeM_bits bx by_ bdx bdy g.1 g.2.1 (k := i) (by trivial)
        exact ⟨Nat.le_trans this.1 (by decide), Nat.le_trans this.2 (by decide), Nat.le_trans bz (by decide), by show ib 1 ≤ 1000; decide⟩
      · refine ⟨(by show 1 ≤ sizeLine; decide), fun l0 hl0 => ?_⟩
        have e7 := Same.upd (Same.refl H6) hl0 (o := .lst [.int 0])
        have hl7 := e7 _ _ hl6
        refine ⟨_, rfl, l6, rfl, ⟨_, SqL.of hl7⟩, fun D hD => lc_list (K := K) (a := l6) (xs := natV ((List.range (nx * ny).toNat).map fun k => enN ns bs most band (sx, sy) sz (Geo.placeM x y dx dy nx k) z)) (fun i H' => Same (L2.upd H6 l0 (.lst [.int 0])) H' ∧ H' D = some (.lst (((List.range i).map fun k => levI ns bs band (placeO ns ⟨sx, sy, sz, 1⟩ (Geo.placeM x y dx dy nx k) z most)).map L2.V.int))) ?_ (fun i H' _ ⟨e8, _⟩ => SqL.of (e8 _ _ hl7)) ?_ ?_⟩
        · exact ⟨Same.set hD (Same.refl _), upd_same⟩
        · rintro i xi H' hi ⟨e8, hacc⟩
          have hin2 : i < (nx * ny).toNat := by have := (List.getElem?_eq_some_iff.1 hi).1; rwa [natV_len, List.length_map, List.length_range] at this
          have hg : ((List.range (nx * ny).toNat).map fun k => enN ns bs most band (sx, sy) sz (Geo.placeM x y dx dy nx k) z)[i]? = some (enN ns bs most band (sx, sy) sz (Geo.placeM x y dx dy nx i) z) := by rw [List.getElem?_map, List.getElem?_range hin2]; rfl
          rw [natV_get hg] at hi
          cases hi
          have hlt : (((List.range i).map fun k => levI ns bs band (placeO ns ⟨sx, sy, sz, 1⟩ (Geo.placeM x y dx dy nx k) z most)).map L2.V.int).length < sizeLine := by
            rw [List.length_map, List.length_map, List.length_range]
            exact Nat.lt_of_lt_of_le (show i < 300 by trivial) (by decide)
          refine ⟨rfl, ?_⟩
          refine ⟨_, rfl, _, rfl, enN_lt ef B (p := (sx, sy)) b200 hm4 (hpow eg hm4 hb3), _, hacc, hlt, Same.set hD e8, ?_⟩
          rw [upd_same, List.range_succ, List.map_append, List.map_append, List.map_cons, List.map_nil, List.map_cons, List.map_nil, lev_en (p := (sx, sy)) hin]
        · rintro H' ⟨e8, hacc⟩
          rw [natV_len, List.length_map, List.length_range] at hacc
          refine ⟨l0, D, _, _, rfl, rfl, e8 _ _ upd_same, hacc, ?_, fun q hq => k _ q ?_⟩
          · rw [List.length_map, List.length_map, List.length_range]
            exact Nat.le_trans (show 1 + (nx * ny).toNat ≤ 300 by trivial) (by decide)
          · rw [upd_same]
            rfl
end
end
end Pr
end
section
set_option Elab.async false
set_option linter.all false
set_option maxRecDepth 100000
set_option maxHeartbeats 2000000
namespace Pr
open PySem PySem.Spec PyProof.Rows L2
structure Def (K : PySem.W.Frag) (mg : Str → Option Value) (x : Str) (st : Stmt) : Prop where
  ex : ∃ f fd, Fun K x x st f fd ∧ mg x = some (.ref f)
theorem def_mk {K : PySem.W.Frag} {h : Heap} {mg : Str → Option Value} {x : Str} {st : Stmt} {f : Addr} {oc : Value} {od an : Option Addr} {osl : Array (Option Value)} {kV doc pm cdv ct : Value} (X : K.In h) (G : h.Ns mainGlobals mg)
    (a : PySem.W.nsIn K mainGlobals x = some (some (.ref f))) (l : K.lookup f = some ⟨oc, od, .func (PySem.W.fnOf x x (defArgs st) (defBody st) (defScope st) .none kV doc pm an cdv ct), osl⟩)
    (c : PySem.W.codeIn K cdv x = true) (k : PySem.W.keepIn K (.ref f) = true) : Def K mg x st := ⟨f, _, fun_mk (st := st) l c k, PySem.W.mg_of X G a⟩
def AllLen (P : List Value → Prop) : Nat → Prop
  | 0 => P []
  | n + 1 => ∀ a, AllLen (fun l => P (a :: l)) n
theorem allLen : ∀ (n : Nat) (P : List Value → Prop), AllLen P n → ∀ us, us.length = n → P us
  | 0, P, h, [], _ => h
  | n + 1, P, h, a :: l, e => allLen n (fun l => P (a :: l)) (h a) l (Nat.succ.inj e)
theorem Def.cal {K : PySem.W.Frag} {mg : Str → Option Value} {x : Str} {st : Stmt} {n : Nat} {ps : List Str} {sp : Sp} (D : Def K mg x st) (P : Program) (w : World) (base : Heap) (k : ∀ f fd, Fun K x x st f fd → FnOk P w K mg base CX0 n f fd ps sp)
    (b : ∀ (kV doc pm : Value) (an : Option Addr) (cdv ct : Value), AllLen (fun us => bindArgs (PySem.W.fnOf x x (defArgs st) (defBody st) (defScope st) .none kV doc pm an cdv ct) ⟨us, []⟩ = pure (ps.zip us)) ps.length) : Cal P w K mg base n x ps sp := by
  obtain ⟨f, fd, F, m⟩ := D.ex
  exact ⟨f, fd, k f fd F, m, F.kp, F.binds fun kV doc pm an cdv ct us hl => allLen _ _ (b kV doc pm an cdv ct) us hl⟩
theorem fun_top {K : PySem.W.Frag} {x : Str} {st : Stmt} {ps : List Str} {f : Addr} {fd : FuncData} (F : Fun K x x st f fd)
    (b : ∀ (kV doc pm : Value) (an : Option Addr) (cdv ct : Value), AllLen (fun us => bindArgs (PySem.W.fnOf x x (defArgs st) (defBody st) (defScope st) .none kV doc pm an cdv ct) ⟨us, []⟩ = pure (ps.zip us)) ps.length) :
    ∀ (s : Shared) (us : List Value), us.length = ps.length → BindsTo s fd ⟨us, []⟩ (ps.zip us) := by
  obtain ⟨oc, od, kV, doc, pm, an, cdv, ct, osl, rfl, lk, hcd⟩ := F.ex
  exact fun s us hu => .of_eq (allLen _ _ (b kV doc pm an cdv ct) us hu)
theorem mk_Txt {K : PySem.W.Frag} {h : Heap} {mg : Str → Option Value} {t0 : Tok} {t1 : Tok} {t2 : Tok} {t3 : Tok} {t4 : Tok} (X : K.In h) (G : h.Ns mainGlobals mg) (a0 : PySem.W.nsIn K mainGlobals "HEAD" = some (some (.int 3 t0))) (a1 : PySem.W.nsIn K mainGlobals "LEAST_CORNERS" = some (some (.int 3 t1))) (a2 : PySem.W.nsIn K mainGlobals "MOST_CORNERS" = some (some (.int 64 t2))) (a3 : PySem.W.nsIn K mainGlobals "LARGEST_LENGTH" = some (some (.int 4095 t3))) (a4 : PySem.W.nsIn K mainGlobals "LARGEST_STUFF" = some (some (.int 7 t4))) (b0 : PySem.W.nsIn K mainGlobals "range" = some none) (b1 : PySem.W.nsIn K mainGlobals "len" = some none) (b2 : PySem.W.nsIn K mainGlobals "min" = some none) (b3 : PySem.W.nsIn K mainGlobals "max" = some none) (b4 : PySem.W.nsIn K mainGlobals "abs" = some none) (b5 : PySem.W.nsIn K mainGlobals "sum" = some none) (b6 : PySem.W.nsIn K mainGlobals "enumerate" = some none) : Txt mg :=
  ⟨⟨_, PySem.W.mg_of X G a0⟩, ⟨_, PySem.W.mg_of X G a1⟩, ⟨_, PySem.W.mg_of X G a2⟩, ⟨_, PySem.W.mg_of X G a3⟩, ⟨_, PySem.W.mg_of X G a4⟩, PySem.W.mg_none_of X G b0, PySem.W.mg_none_of X G b1, PySem.W.mg_none_of X G b2, PySem.W.mg_none_of X G b3, PySem.W.mg_none_of X G b4, PySem.W.mg_none_of X G b5, PySem.W.mg_none_of X G b6⟩
theorem mk_TxtB {K : PySem.W.Frag} {h : Heap} {mg : Str → Option Value} {t0 : Tok} {t1 : Tok} (X : K.In h) (G : h.Ns mainGlobals mg) (a0 : PySem.W.nsIn K mainGlobals "BOOK_NUMBERS" = some (some (.int 36 t0))) (a1 : PySem.W.nsIn K mainGlobals "WHOLE_PART" = some (some (.int 32768 t1)))  : TxtB mg :=
  ⟨⟨_, PySem.W.mg_of X G a0⟩, ⟨_, PySem.W.mg_of X G a1⟩⟩
theorem mk_TxtW {K : PySem.W.Frag} {h : Heap} {mg : Str → Option Value} (X : K.In h) (G : h.Ns mainGlobals mg)  (b0 : PySem.W.nsIn K mainGlobals "zip" = some none) (b1 : PySem.W.nsIn K mainGlobals "list" = some none) (b2 : PySem.W.nsIn K mainGlobals "tuple" = some none) (b3 : PySem.W.nsIn K mainGlobals "reversed" = some none) : TxtW mg :=
  ⟨PySem.W.mg_none_of X G b0, PySem.W.mg_none_of X G b1, PySem.W.mg_none_of X G b2, PySem.W.mg_none_of X G b3⟩
theorem mk_TxtM {K : PySem.W.Frag} {h : Heap} {mg : Str → Option Value} {t0 : Tok} (X : K.In h) (G : h.Ns mainGlobals mg) (a0 : PySem.W.nsIn K mainGlobals "MOST_TURNS" = some (some (.int 4 t0)))  : TxtM mg :=
  ⟨⟨_, PySem.W.mg_of X G a0⟩⟩
theorem mk_TxtL {K : PySem.W.Frag} {h : Heap} {mg : Str → Option Value} {t0 : Tok} {t1 : Tok} {t2 : Tok} {t3 : Tok} (X : K.In h) (G : h.Ns mainGlobals mg) (a0 : PySem.W.nsIn K mainGlobals "BANDS" = some (some (.int 4 t0))) (a1 : PySem.W.nsIn K mainGlobals "AIR" = some (some (.int 32 t1))) (a2 : PySem.W.nsIn K mainGlobals "AIR_STEP" = some (some (.int 1024 t2))) (a3 : PySem.W.nsIn K mainGlobals "NEAR_GAIN" = some (some (.int 4294967296 t3)))  : TxtL mg :=
  ⟨⟨_, PySem.W.mg_of X G a0⟩, ⟨_, PySem.W.mg_of X G a1⟩, ⟨_, PySem.W.mg_of X G a2⟩, ⟨_, PySem.W.mg_of X G a3⟩⟩
theorem mk_TxtV {K : PySem.W.Frag} {h : Heap} {mg : Str → Option Value} {t0 : Tok} {t1 : Tok} (X : K.In h) (G : h.Ns mainGlobals mg) (a0 : PySem.W.nsIn K mainGlobals "LEVEL_ZERO" = some (some (.int 281474976710656 t0))) (a1 : PySem.W.nsIn K mainGlobals "NO_LEVEL" = some (some (.int (-100000) t1)))  : TxtV mg :=
  ⟨⟨_, PySem.W.mg_of X G a0⟩, ⟨_, PySem.W.mg_of X G a1⟩⟩
theorem mk_TxtBd {K : PySem.W.Frag} {h : Heap} {mg : Str → Option Value} {t0 : Tok} (X : K.In h) (G : h.Ns mainGlobals mg) (a0 : PySem.W.nsIn K mainGlobals "LARGEST_BAND" = some (some (.int 3 t0)))  : TxtBd mg :=
  ⟨⟨_, PySem.W.mg_of X G a0⟩⟩
theorem mk_TxtP {K : PySem.W.Frag} {h : Heap} {mg : Str → Option Value} {t0 : Tok} (X : K.In h) (G : h.Ns mainGlobals mg) (a0 : PySem.W.nsIn K mainGlobals "MOST_PLACES_A_SIDE" = some (some (.int 16 t0)))  : TxtP mg :=
  ⟨⟨_, PySem.W.mg_of X G a0⟩⟩
section
variable {P : Program} {w : World} {K : PySem.W.Frag} {mg : Str → Option Value}
theorem all_ok {fa : Addr} (hfa : mg "level" = some (.ref fa)) (T : Txt mg) (TB : TxtB mg) (TW : TxtW mg) (TM : TxtM mg) (TL : TxtL mg) (TV : TxtV mg) (TBd : TxtBd mg) (TP : TxtP mg)
    (D_is_length_right : Def K mg "is_length_right" st_is_length_right)
    (D_is_stuff : Def K mg "is_stuff" st_is_stuff)
    (D_is_head_right : Def K mg "is_head_right" st_is_head_right)
    (D_is_corner_right : Def K mg "is_corner_right" st_is_corner_right)
    (D_wrong_corner : Def K mg "wrong_corner" st_wrong_corner)
    (D_is_direction_right : Def K mg "is_direction_right" st_is_direction_right)
    (D_wrong_direction : Def K mg "wrong_direction" st_wrong_direction)
    (D_side : Def K mg "side" st_side)
    (D_straight_corner : Def K mg "straight_corner" st_straight_corner)
    (D_spans_meet : Def K mg "spans_meet" st_spans_meet)
    (D_lines_meet : Def K mg "lines_meet" st_lines_meet)
    (D_meets_far_line : Def K mg "meets_far_line" st_meets_far_line)
    (D_crossed_line : Def K mg "crossed_line" st_crossed_line)
    (D_is_room_left : Def K mg "is_room_left" st_is_room_left)
    (D_lines_fault : Def K mg "lines_fault" st_lines_fault)
    (D_corners_of : Def K mg "corners_of" st_corners_of)
    (D_lines_of : Def K mg "lines_of" st_lines_of)
    (D_room_fault : Def K mg "room_fault" st_room_fault)
    (D_book_fault : Def K mg "book_fault" st_book_fault)
    (D_is_within : Def K mg "is_within" st_is_within)
    (D_is_inside : Def K mg "is_inside" st_is_inside)
    (D_refusal : Def K mg "refusal" st_refusal)
    (D_is_grid_right : Def K mg "is_grid_right" st_is_grid_right)
    (D_grid_places : Def K mg "grid_places" st_grid_places)
    (D_sign : Def K mg "sign" st_sign)
    (D_plane_of_line : Def K mg "plane_of_line" st_plane_of_line)
    (D_walls_of : Def K mg "walls_of" st_walls_of)
    (D_depth : Def K mg "depth" st_depth)
    (D_mirrored : Def K mg "mirrored" st_mirrored)
    (D_rows_of_walls : Def K mg "rows_of_walls" st_rows_of_walls)
    (D_whole_point : Def K mg "whole_point" st_whole_point)
    (D_crossing : Def K mg "crossing" st_crossing)
    (D_is_between_corners : Def K mg "is_between_corners" st_is_between_corners)
    (D_may_turn_at : Def K mg "may_turn_at" st_may_turn_at)
    (D_points_by : Def K mg "points_by" st_points_by)
    (D_is_leg_clear : Def K mg "is_leg_clear" st_is_leg_clear)
    (D_is_path : Def K mg "is_path" st_is_path)
    (D_square_length : Def K mg "square_length" st_square_length)
    (D_paths_to : Def K mg "paths_to" st_paths_to)
    (D_paths_over : Def K mg "paths_over" st_paths_over)
    (D_stuffs_of : Def K mg "stuffs_of" st_stuffs_of)
    (D_root : Def K mg "root" st_root)
    (D_parts_left : Def K mg "parts_left" st_parts_left)
    (D_gain : Def K mg "gain" st_gain)
    (D_energy_of : Def K mg "energy_of" st_energy_of)
    (D_energies_over : Def K mg "energies_over" st_energies_over)
    (D_level_of : Def K mg "level_of" st_level_of)
    (D_level : Def K mg "level" st_level)
    : ∃ fd : FuncData, (∀ (s : Shared) (us : List Value), us.length = (["sx", "sy", "sz", "x", "y", "z", "dx", "dy", "nx", "ny", "most", "band", "room", "book"] : List Str).length → BindsTo s fd ⟨us, []⟩ ((["sx", "sy", "sz", "x", "y", "z", "dx", "dy", "nx", "ny", "most", "band", "room", "book"] : List Str).zip us)) ∧ ∀ base : Heap, K.In base → base.Ns mainGlobals mg → FnOk P w K mg base CX0 8 fa fd ["sx", "sy", "sz", "x", "y", "z", "dx", "dy", "nx", "ny", "most", "band", "room", "book"] (spLe K) := by
  obtain ⟨f_top, fd_top, F_top, m_top⟩ := D_level.ex
  have e := hfa.symm.trans m_top
  cases e
  refine ⟨fd_top, ?_, fun base _ _ => ?_⟩
  · exact fun_top F_top fun _ _ _ _ _ _ _ _ _ _ _ _ _ _ _ _ _ _ _ _ => rfl
  · have C_is_length_right := D_is_length_right.cal P w base (fun _ _ F => ok_len F T) fun _ _ _ _ _ _ _ => rfl
    have C_is_stuff := D_is_stuff.cal P w base (fun _ _ F => ok_stuff F T) fun _ _ _ _ _ _ _ => rfl
    have C_is_head_right := D_is_head_right.cal P w base (fun _ _ F => ok_head F T C_is_stuff) fun _ _ _ _ _ _ _ => rfl
    have C_is_corner_right := D_is_corner_right.cal P w base (fun _ _ F => ok_corner F T C_is_stuff) fun _ _ _ _ _ _ _ _ _ => rfl
    have C_wrong_corner := D_wrong_corner.cal P w base (fun _ _ F => ok_wc F T C_is_corner_right) fun _ _ _ _ _ _ _ => rfl
    have C_is_direction_right := D_is_direction_right.cal P w base (fun _ _ F => ok_dir F T) fun _ _ _ _ _ _ _ => rfl
    have C_wrong_direction := D_wrong_direction.cal P w base (fun _ _ F => ok_wd F T C_is_direction_right) fun _ _ _ _ _ _ _ => rfl
    have C_side := D_side.cal P w base (fun _ _ F => ok_side F ) fun _ _ _ _ _ _ _ _ _ => rfl
    have C_straight_corner := D_straight_corner.cal P w base (fun _ _ F => ok_sc F T C_side) fun _ _ _ _ _ _ _ => rfl
    have C_spans_meet := D_spans_meet.cal P w base (fun _ _ F => ok_spans F T) fun _ _ _ _ _ _ _ _ _ _ _ => rfl
    have C_lines_meet := D_lines_meet.cal P w base (fun _ _ F => ok_meet F C_spans_meet C_side) fun _ _ _ _ _ _ _ _ _ _ => rfl
    have C_meets_far_line := D_meets_far_line.cal P w base (fun _ _ F => ok_mf F T C_lines_meet) fun _ _ _ _ _ _ _ _ => rfl
    have C_crossed_line := D_crossed_line.cal P w base (fun _ _ F => ok_cl F T C_meets_far_line) fun _ _ _ _ _ _ _ => rfl
    have C_is_room_left := D_is_room_left.cal P w base (fun _ _ F => ok_rl F T) fun _ _ _ _ _ _ _ => rfl
    have C_lines_fault := D_lines_fault.cal P w base (fun _ _ F => ok_lf F C_wrong_direction C_straight_corner C_crossed_line C_is_room_left) fun _ _ _ _ _ _ _ => rfl
    have C_corners_of := D_corners_of.cal P w base (fun _ _ F => ok_corners F T) fun _ _ _ _ _ _ _ => rfl
    have C_lines_of := D_lines_of.cal P w base (fun _ _ F => ok_lines F T C_corners_of) fun _ _ _ _ _ _ _ => rfl
    have C_room_fault := D_room_fault.cal P w base (fun _ _ F => ok_rf F C_is_length_right C_is_head_right C_wrong_corner C_lines_fault C_lines_of) fun _ _ _ _ _ _ _ => rfl
    have C_book_fault := D_book_fault.cal P w base (fun _ _ F => ok_bf F T TB) fun _ _ _ _ _ _ _ => rfl
    have C_is_within := D_is_within.cal P w base (fun _ _ F => ok_wi F C_lines_meet C_side) fun _ _ _ _ _ _ _ _ => rfl
    have C_is_inside := D_is_inside.cal P w base (fun _ _ F => ok_in F C_is_within) fun _ _ _ _ _ _ _ _ _ => rfl
    have C_refusal := D_refusal.cal P w base (fun _ _ F => ok_re F C_room_fault C_book_fault C_lines_of C_is_inside) fun _ _ _ _ _ _ _ _ _ _ => rfl
    have C_is_grid_right := D_is_grid_right.cal P w base (fun _ _ F => ok_grid F TP) fun _ _ _ _ _ _ _ _ => rfl
    have C_grid_places := D_grid_places.cal P w base (fun _ _ F => ok_gp F T) fun _ _ _ _ _ _ _ _ _ _ _ _ _ => rfl
    have C_sign := D_sign.cal P w base (fun _ _ F => ok_sg F ) fun _ _ _ _ _ _ _ => rfl
    have C_plane_of_line := D_plane_of_line.cal P w base (fun _ _ F => ok_po F C_sign) fun _ _ _ _ _ _ _ => rfl
    have C_walls_of := D_walls_of.cal P w base (fun _ _ F => ok_wa F C_lines_of C_plane_of_line) fun _ _ _ _ _ _ _ => rfl
    have C_depth := D_depth.cal P w base (fun _ _ F => ok_dp F ) fun _ _ _ _ _ _ _ _ => rfl
    have C_mirrored := D_mirrored.cal P w base (fun _ _ F => ok_mi F C_depth) fun _ _ _ _ _ _ _ _ => rfl
    have C_rows_of_walls := D_rows_of_walls.cal P w base (fun _ _ F => ok_rw F T TW C_depth C_mirrored) fun _ _ _ _ _ _ _ _ _ => rfl
    have C_whole_point := D_whole_point.cal P w base (fun _ _ F => ok_wp F ) fun _ _ _ _ _ _ _ => rfl
    have C_crossing := D_crossing.cal P w base (fun _ _ F => ok_cs F TW C_depth) fun _ _ _ _ _ _ _ _ _ => rfl
    have C_is_between_corners := D_is_between_corners.cal P w base (fun _ _ F => ok_bt F ) fun _ _ _ _ _ _ _ _ => rfl
    have C_may_turn_at := D_may_turn_at.cal P w base (fun _ _ F => ok_mt F C_depth C_is_between_corners) fun _ _ _ _ _ _ _ _ _ => rfl
    have C_points_by := D_points_by.cal P w base (fun _ _ F => ok_pb F T TW C_depth C_crossing C_may_turn_at) fun _ _ _ _ _ _ _ _ _ _ => rfl
    have C_is_leg_clear := D_is_leg_clear.cal P w base (fun _ _ F => ok_lg F T C_lines_meet) fun _ _ _ _ _ _ _ _ _ _ => rfl
    have C_is_path := D_is_path.cal P w base (fun _ _ F => ok_ip F T C_points_by C_is_leg_clear) fun _ _ _ _ _ _ _ _ _ _ => rfl
    have C_square_length := D_square_length.cal P w base (fun _ _ F => ok_sq F ) fun _ _ _ _ _ _ _ _ => rfl
    have C_paths_to := D_paths_to.cal P w base (fun _ _ F => ok_pt F C_whole_point C_is_path C_square_length) fun _ _ _ _ _ _ _ _ _ => rfl
    have C_paths_over := D_paths_over.cal P w base (fun _ _ F => ok_pv F C_lines_of C_walls_of C_rows_of_walls C_whole_point C_paths_to C_is_inside) fun _ _ _ _ _ _ _ _ _ _ => rfl
    have C_stuffs_of := D_stuffs_of.cal P w base (fun _ _ F => ok_st F T) fun _ _ _ _ _ _ _ => rfl
    have C_root := D_root.cal P w base (fun _ _ F => ok_rt F ) fun _ _ _ _ _ _ _ => rfl
    have C_parts_left := D_parts_left.cal P w base (fun _ _ F => ok_pl F TL C_root) fun _ _ _ _ _ _ _ _ _ _ => rfl
    have C_gain := D_gain.cal P w base (fun _ _ F => ok_gn F T TL TB C_parts_left C_root) fun _ _ _ _ _ _ _ _ _ _ => rfl
    have C_energy_of := D_energy_of.cal P w base (fun _ _ F => ok_en F C_gain) fun _ _ _ _ _ _ _ _ _ _ => rfl
    have C_energies_over := D_energies_over.cal P w base (fun _ _ F => ok_eo F T C_lines_of C_paths_over C_stuffs_of C_is_inside C_energy_of) fun _ _ _ _ _ _ _ _ _ _ _ _ => rfl
    have C_level_of := D_level_of.cal P w base (fun _ _ F => ok_lv F TV) fun _ _ _ _ _ _ _ => rfl
    exact ok_le F_top TM TBd C_refusal C_is_grid_right C_grid_places C_energies_over C_level_of
end
end Pr
end
section
open PySem PySem.W PyProof.Rows
namespace PySem.W.Fast
def tw9208173643589433052:=()
def tw14056838169882666672:=()
def tw14477601130611348650:=()
def tw10245039738448367686:=()
def tw17947604029946485646:=()
def tw13846155107032429821:=()
def tw10203817031579265174:=()
def tw11938764220157306708:=()
def tw10679694401996779310:=()
def tw3085537786893454491:=()
def tw13071477957623214354:=()
def tw9790880728420553242:=()
def tw14107389506652990346:=()
def tw4552892285718030013:=()
def tw7748518926791416042:=()
def tw8535303727375051082:=()
def tw10224216509164324559:=()
def tw2405355428197458564:=()
def tw7961853545391235556:=()
def tw13161999353075987309:=()
def tw16567296182212462184:=()
def tw5779290735259918956:=()
def tw5058351100922649374:=()
def tw6510912736779315147:=()
def tw17133718749734538307:=()
def tw61694590460204941:=()
def tw5673809103292199611:=()
def tw2459198226673604271:=()
def tw10452952064049914892:=()
def tw3799669707849983548:=()
def tw16347971830423812755:=()
def tw687687796325989612:=()
def tw17312229536377751828:=()
def tw939102473750011571:=()
def tw7376403397471416476:=()
def tw8284218778268793462:=()
def tw1043853524537568793:=()
def tw2909095152388012710:=()
def tw11447056374538011121:=()
def tw17170482206900461645:=()
def tw6217566829825854199:=()
def tw16683912840732127720:=()
def tw12436336876003919494:=()
def tw18107027900767677255:=()
def tw11083450577809075201:=()
def tw6511669850648438103:=()
def tw13501513588220797067:=()
def tw9047042600255919594:=()
def tw7198599190165967926:=()
def tw8970845642509546859:=()
def tw6012052322292408303:=()
def tw4365634731685663086:=()
def tw3310092484671699618:=()
def tw8011477978963386820:=()
def tw5511962491638784715:=()
def tw8963559799029320134:=()
def tw1926209011707227845:=()
def tw109119499316975954:=()
def tw9541703118464695093:=()
def tw10970736807627406805:=()
def tw3179170838130850485:=()
def tw14110409722590421424:=()
def tw14272817930926737527:=()
def tw5066721898402340354:=()
def tw16112604884397963996:=()
def tw8863375449156020669:=()
def tw9232410649503873815:=()
def tw17311635342225511787:=()
def tw16234440524635777149:=()
def tw9972562870433525440:=()
def tw14400710078572250136:=()
def tw11336597584915596218:=()
def tw14012104648868368320:=()
def tw3483916661184919397:=()
def tw12045767725724831637:=()
def tw13439245043934230632:=()
def tw8497399645257803392:=()
def tw15504922383615381750:=()
def tw16982954863731416122:=()
def tw13768667393601099413:=()
def tw17900351232464588391:=()
def tw8857194293039425464:=()
def tw3213101373540600722:=()
def tw3136260505364730629:=()
def tw17098815929506598697:=()
def tw12567671889452295059:=()
def tw9356715889859219695:=()
def tw5808430939129527250:=()
def tw18092965985998469193:=()
def tw12722555879104703996:=()
def tw11596627020873798118:=()
def tw6684058814352563813:=()
def tw3160122584284342985:=()
def tw5215185487159752767:=()
def tw14701776066345536902:=()
def tw2718339052448401568:=()
def tw15183446276690634222:=()
def tw7793617528659094835:=()
def tw935111158587328869:=()
def tw5943217629413907166:=()
def tw7425867374802564613:=()
def tw10880257827579424513:=()
def tw16777728861712699182:=()
def tw4744421537504482190:=()
def tw1549534047379576081:=()
def tw9187831432370917214:=()
def tw8262475732201943451:=()
def tw16543779825608051840:=()
def tw15501143225594054705:=()
def tw7584695654388484867:=()
def tw11433157554817217777:=()
def tw14343075923061320719:=()
def tw14703288518723980334:=()
def tw8289012334375828558:=()
def tw18282711347413078246:=()
def tw9887794381018105752:=()
def tw5027999586194478732:=()
def tw11180338058477319619:=()
def tw352751464936099156:=()
def tw12416424780540553123:=()
def tw14520508348979552120:=()
def tw4000324720429935109:=()
def tw8592215365652817083:=()
def tw7118972961551521291:=()
def tw17186053582666655285:=()
def tw1359154034400581887:=()
def tw14224905271315141946:=()
def tw15432164461538589982:=()
def tw13109000420821036115:=()
def tw4739592014558530211:=()
def tw15947115351295604255:=()
def tw14016621971512041177:=()
def tw7421815705220825594:=()
def tw7307374003069561442:=()
def tw887475060010996369:=()
def tw14541742622010379738:=()
def tw7666959027256761600:=()
def tw10029315803574575792:=()
def tw16216979294023213190:=()
def tw15072554503719367792:=()
def tw17352585278764204181:=()
def tw18338121956898844532:=()
def tw1864545597742567005:=()
def tw3679344778619712145:=()
def tw8577140206305037818:=()
def tw7379763674003891776:=()
def tw13740980510906984167:=()
def tw89358712711372741:=()
def tw16548038055264637579:=()
def tw6998637215947433247:=()
def tw14463489396063544116:=()
def tw5591798916413412374:=()
def tw2856786772751940233:=()
def tw3202523466054207063:=()
def tw3410739779636780231:=()
def tw2578217697032573928:=()
def tw11133247315149095918:=()
def tw3091769931021772904:=()
def tw15247763212860118319:=()
def tw17677926978845078928:=()
def tw15671231769258085493:=()
def tw3365447151070661653:=()
def tw14968468216506507950:=()
def tw693858409736082591:=()
def tw6770966625256887326:=()
def tw2137886119516540575:=()
def tw14450016806629221789:=()
def tw4756926671799802737:=()
def tw1793532698974283114:=()
def tw11880424516336380534:=()
def tw4807746970461009677:=()
def tw7609697549753515640:=()
def tw8049552566074315435:=()
def tw1824002917899177715:=()
def tw858695455830437168:=()
def tw18423148618592296218:=()
def tw13712822405263415505:=()
def tw15939030088334625160:=()
def tw11839107940905316460:=()
def tw7752121651568298302:=()
def tw9710706626061902473:=()
def tw13170477848865024416:=()
def tw1676585473375064558:=()
def tw9077736908974011564:=()
def tw7942076804418968824:=()
def tw17632111139850940784:=()
def tw5417337303455591167:=()
def tw1116126092466942791:=()
def tw14277107016523105103:=()
def tw13060924385510906770:=()
def tw13952671632988818816:=()
def tw6215842333649064918:=()
def tw18071652014888445111:=()
def tw15719509162412841427:=()
def tw8621761346314148815:=()
def tw5360544768048040288:=()
def tw2908880441605387047:=()
def tw5266759328790924838:=()
def tw2975477434466050817:=()
def tw5230019179762375283:=()
def tw11205819653916929965:=()
def tw14589204238724033733:=()
def tw10334466699371577408:=()
def tw1010546634820301832:=()
def tw2020263369204407979:=()
def tw1579383525394770385:=()
def tw17135796476611206129:=()
def tw10296017223261443889:=()
def tw6755976016695186067:=()
def tw13106731412626346849:=()
def tw3209887912362449639:=()
def tw538597245889329590:=()
def tw6040259874516477564:=()
def tw2628255741972385011:=()
def tw4851885824246180503:=()
def tw12412877375659850995:=()
def tw1724805230169112805:=()
def tw17778270506119958013:=()
def tw8116735103147122496:=()
def tw467634115098457679:=()
def tw12337722477693556215:=()
def tw6970114869868527644:=()
def tw3628770267760314144:=()
def tw9376005082470106893:=()
def tw4881991895102860740:=()
def tw10777787203088001531:=()
def tw6695931442093714921:=()
def tw3145472459605932014:=()
def tw2602759514342892067:=()
theorem te11768987310027245970 : True := ⟨⟩
def tw10089185352868841900:=()
def tw7218925069440089044:=()
def tw10707112013199873892:=()
def tw6708793837290904497:=()
def tw10422574506957661904:=()
def tw10078468320865342687:=()
def tw9991621881011321519:=()
def tw12213608387023547299:=()
def tw14296199789117811993:=()
def tw15360295517261533167:=()
def tw17577447607260953334:=()
def tw6127414431245500755:=()
def tw3823456141066541645:=()
def tw14913853721959386068:=()
def tw16654424267366548407:=()
def tw15476147918769370007:=()
def tw4246802759622501042:=()
def tw844281449453753509:=()
def tw18138693871241765590:=()
def tw3526067799877514254:=()
def tw14587979783471891589:=()
def tw15208621636276239479:=()
def tw12099611817955660161:=()
def tw16005236595900747105:=()
def tw6115295662261519919:=()
def tw589609573853555711:=()
def tw45699090768881404:=()
def tw465072081349681114:=()
def tw2928172057255372037:=()
def tw16411198501360096507:=()
def tw12454861024018336710:=()
def tw12328341292992040505:=()
def tw4287755382817451710:=()
def tw13927777087422175060:=()
def tw9208298780478193387:=()
def tw13470831788575360398:=()
def tw9246749102932255489:=()
def tw5908908942281348732:=()
def tw16695844331103641442:=()
def tw3266636291650233413:=()
def tw8155621787679127403:=()
def tw3895099854845683817:=()
def tw8065489714642372028:=()
def tw426104496923088177:=()
def tw8148034428118155542:=()
def tw13604776809392576839:=()
def tw5356967574104819383:=()
def tw6823334442774123580:=()
def tw16140064927521363834:=()
def tw11566505297229888642:=()
def tw10626125391610733084:=()
def tw13773369792554711503:=()
def tw10235095651920600495:=()
def tw2325047639877578541:=()
def tw14080424584763267392:=()
def tw4057003665963839793:=()
def tw10560657909487819802:=()
def tw928110192253039242:=()
def tw17435666074172824457:=()
end PySem.W.Fast
set_option Elab.async false
set_option maxRecDepth 100000 in
set_option maxHeartbeats 0 in
theorem PySem.Challenge.cw_hearingplaces_s03_level_holds : PySem.Challenge.rw_hearingplaces_s03_level.Holds := by
  w_on; k_headS; (case hw => exact ⟨[.int 0, .int 0, .int 0, .int 0, .int 0, .int 0, .int 0, .int 0, .int 0, .int 0, .int 0, .int 0, .list [], .list []], by decide +kernel, by decide +kernel⟩)
  k_fillS
  refine L2.walk_specK (r := PySem.Challenge.rw_hearingplaces_s03_level) (k := 8) (CX := L2.CX0) (ps := ["sx", "sy", "sz", "x", "y", "z", "dx", "dy", "nx", "ny", "most", "band", "room", "book"]) (sp := Pr.spLe) (by decide +kernel) rfl rfl ⟨rfl, by decide, by decide⟩ (fun w h Y => PySem.W.kIn_of Y) ?F ?S (fun _ _ _ _ z => z)
  case F =>
    intro w mg fa h Y KX G hmg
    have T : Pr.Txt mg := by
      refine' Pr.mk_Txt KX G ?h0 ?h1 ?h2 ?h3 ?h4 ?h5 ?h6 ?h7 ?h8 ?h9 ?h10 ?h11
      (case h0 => k_is)
      (case h1 => k_is)
      (case h2 => k_is)
      (case h3 => k_is)
      (case h4 => k_is)
      (case h5 => k_is)
      (case h6 => k_is)
      (case h7 => k_is)
      (case h8 => k_is)
      (case h9 => k_is)
      (case h10 => k_is)
      (case h11 => k_is)
    have TB : Pr.TxtB mg := by
      refine' Pr.mk_TxtB KX G ?h0 ?h1
      (case h0 => k_is)
      (case h1 => k_is)
    have TW : Pr.TxtW mg := by
      refine' Pr.mk_TxtW KX G ?h0 ?h1 ?h2 ?h3
      (case h0 => k_is)
      (case h1 => k_is)
      (case h2 => k_is)
      (case h3 => k_is)
    have TM : Pr.TxtM mg := by
      refine' Pr.mk_TxtM KX G ?h0
      (case h0 => k_is)
    have TL : Pr.TxtL mg := by
      refine' Pr.mk_TxtL KX G ?h0 ?h1 ?h2 ?h3
      (case h0 => k_is)
      (case h1 => k_is)
      (case h2 => k_is)
      (case h3 => k_is)
    have TV : Pr.TxtV mg := by
      refine' Pr.mk_TxtV KX G ?h0 ?h1
      (case h0 => k_is)
      (case h1 => k_is)
    have TBd : Pr.TxtBd mg := by
      refine' Pr.mk_TxtBd KX G ?h0
      (case h0 => k_is)
    have TP : Pr.TxtP mg := by
      refine' Pr.mk_TxtP KX G ?h0
      (case h0 => k_is)
    refine' Pr.all_ok hmg T TB TW TM TL TV TBd TP ?D_is_length_right ?D_is_stuff ?D_is_head_right ?D_is_corner_right ?D_wrong_corner ?D_is_direction_right ?D_wrong_direction ?D_side ?D_straight_corner ?D_spans_meet ?D_lines_meet ?D_meets_far_line ?D_crossed_line ?D_is_room_left ?D_lines_fault ?D_corners_of ?D_lines_of ?D_room_fault ?D_book_fault ?D_is_within ?D_is_inside ?D_refusal ?D_is_grid_right ?D_grid_places ?D_sign ?D_plane_of_line ?D_walls_of ?D_depth ?D_mirrored ?D_rows_of_walls ?D_whole_point ?D_crossing ?D_is_between_corners ?D_may_turn_at ?D_points_by ?D_is_leg_clear ?D_is_path ?D_square_length ?D_paths_to ?D_paths_over ?D_stuffs_of ?D_root ?D_parts_left ?D_gain ?D_energy_of ?D_energies_over ?D_level_of ?D_level
    all_goals (refine' Pr.def_mk KX G ?a ?l ?c ?k; (case a => k_is); (case l => k_is); (case c => k_is); (case k => k_is))
  case S =>
    intro K H xs a hO hwi hask hx
    exact Pr.end_level a hwi hask hx
#print axioms PySem.Challenge.cw_hearingplaces_s03_level_holds
end
