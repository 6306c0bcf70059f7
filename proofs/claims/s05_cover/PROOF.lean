import PyProof.Rows.All
import Wide.All
import OpenK.AllK
import Wide.FinOn
import PyProof.EqAt
import PyProof.EqKinds
import PyProof.TupleCall
import KE.BitLaws
import Open.SpecLaws
import KE.OsHead
import KE.OsGo
import EhPlace
import PyYqbefa
import PySem.Challenge.RW_hearingplaces_s05_cover
section
local macro_rules | `(tactic| trivial) => `(tactic| first | lia -abstractProof | omega)
set_option Elab.async false
set_option linter.all false
set_option maxRecDepth 100000
namespace L2
open PySem PySem.Spec PyProof.Rows
abbrev Key := Sum Int Str
def keyIs : Key → Value → Bool
  | .inl k, v => Value.isInt k v
  | .inr x, v => Value.isStrOf x v
def keyH (w : World) : Key → Int
  | .inl k => hashInt k
  | .inr x => hashStr w x
theorem keyIs_shape : ∀ {k : Key} {v : Value}, keyIs k v = true → (∃ i t, k = Sum.inl i ∧ v = Value.int i t) ∨ (∃ x t, k = Sum.inr x ∧ v = Value.str x t)
  | .inl i, v, h => by
    obtain ⟨t, e⟩ := Value.isInt_shape (k := i) (v := v) h
    exact .inl ⟨i, t, rfl, e⟩
  | .inr x, v, h => by
    obtain ⟨t, e⟩ := Value.isStrOf_shape (x := x) (v := v) h
    exact .inr ⟨x, t, rfl, e⟩
theorem key_ll (a b : Int) : decide ((Sum.inl a : Key) = Sum.inl b) = (a == b) := by
  by_cases e : a = b
  · subst e; simp
  · have h : ¬ (Sum.inl a : Key) = Sum.inl b := fun q => e (Sum.inl.inj q)
    rw [decide_eq_false h]
    exact (beq_eq_false_iff_ne.mpr e).symm
theorem key_rr (a b : Str) : decide ((Sum.inr a : Key) = Sum.inr b) = decide (a = b) := by
  by_cases e : a = b
  · subst e; simp
  · have h : ¬ (Sum.inr a : Key) = Sum.inr b := fun q => e (Sum.inr.inj q)
    rw [decide_eq_false h, decide_eq_false e]
theorem key_lr (a : Int) (b : Str) : decide ((Sum.inl a : Key) = Sum.inr b) = false := decide_eq_false (fun q => nomatch q)
theorem key_rl (a : Str) (b : Int) : decide ((Sum.inr a : Key) = Sum.inl b) = false := decide_eq_false (fun q => nomatch q)
def mixKind (prog : Program) (w : World) : PySem.KeyKind prog w Key where
  is := keyIs
  hash := keyH w
  inj := fun v a b ha hb => by
    rcases keyIs_shape ha with ⟨i, t, rfl, rfl⟩ | ⟨x, t, rfl, rfl⟩
    · rcases keyIs_shape hb with ⟨j, u, rfl, e⟩ | ⟨y, u, rfl, e⟩
      · injection e with e1 _; rw [e1]
      · exact nomatch e
    · rcases keyIs_shape hb with ⟨j, u, rfl, e⟩ | ⟨y, u, rfl, e⟩
      · exact nomatch e
      · injection e with e1 _; rw [e1]
  byValue := fun k v h => by
    rcases keyIs_shape h with ⟨i, t, rfl, rfl⟩ | ⟨x, t, rfl, rfl⟩ <;> rfl
  pyHash := fun hv h => by
    rcases keyIs_shape hv with ⟨i, t, rfl, rfl⟩ | ⟨x, t, rfl, rfl⟩
    · exact wpAny_pyHash_int h
    · exact wpAny_pyHash_str h
  eqBool := fun hu hv h => by
    rcases keyIs_shape hu with ⟨i, t, rfl, rfl⟩ | ⟨x, t, rfl, rfl⟩
    · rcases keyIs_shape hv with ⟨j, u, rfl, rfl⟩ | ⟨y, u, rfl, rfl⟩
      · rw [key_ll] at h; exact wpAny_eqBool_int h
      · rw [key_lr] at h; exact SeqAt.EqAt.int_str i t y u _ _ _ _ h
    · rcases keyIs_shape hv with ⟨j, u, rfl, rfl⟩ | ⟨y, u, rfl, rfl⟩
      · rw [key_rl] at h; exact SeqAt.EqAt.str_int x t j u _ _ _ _ h
      · rw [key_rr] at h; exact wpAny_eqBool_str h
  «strs» := fun k x t v h => by
    rcases keyIs_shape h with ⟨i, u, rfl, e⟩ | ⟨y, u, rfl, e⟩
    · exact nomatch e
    · injection e with e1 _
      subst e1
      cases v <;> rfl
end L2
namespace L2
open PySem PySem.Spec PyProof.Rows
inductive V where
  | non | bl (b : Bool) | int (i : Int) | str (x : Str) | byt (b : Array UInt8) | flt (b : UInt64) | ref (a : Addr) | ty (n : String)
  deriving DecidableEq
def RelV : V → Value → Prop
  | .non, u => u = Value.none
  | .bl b, u => u = Value.bool b
  | .int i, u => ∃ t, u = Value.int i t
  | .str x, u => ∃ t, u = Value.str x t
  | .byt b, u => ∃ t, u = Value.bytes b t
  | .flt b, u => ∃ t, u = Value.float b t
  | .ref a, u => u = Value.ref a
  | .ty n, u => u = Value.type n
abbrev Vals : List V → List Value → Prop := Paired RelV
theorem Vals.length {xs : List V} {us : List Value} (r : Vals xs us) : xs.length = us.length := Paired.length r
theorem Vals.get : ∀ {xs : List V} {us : List Value} {i : Nat} {x : V}, Vals xs us → xs[i]? = some x → ∃ u, us[i]? = some u ∧ RelV x u
  | _, _, _, _, .nil, e => by simp at e
  | _, _, 0, _, .cons r _, e => by simp at e; subst e; exact ⟨_, rfl, r⟩
  | _, _, i + 1, x, .cons _ t, e => by
    obtain ⟨u, h1, h2⟩ := Vals.get (i := i) (x := x) t (by simpa using e)
    exact ⟨u, by simpa using h1, h2⟩
theorem Vals.append : ∀ {xs ys : List V} {us ws : List Value}, Vals xs us → Vals ys ws → Vals (xs ++ ys) (us ++ ws)
  | _, _, _, _, .nil, s => s
  | _, _, _, _, .cons r t, s => .cons r (Vals.append t s)
def RelO : Option V → Option Value → Prop
  | some v, some u => RelV v u
  | none, none => True
  | _, _ => False
def KV {κ : Type} : List (κ × V) → List (κ × Value) → Prop := Paired fun (p : κ × V) (q : κ × Value) => p.1 = q.1 ∧ RelV p.2 q.2
def kV : Key → V
  | .inl i => .int i
  | .inr x => .str x
inductive HO where
    | lst (xs : List V)
    | tup (xs : List V)
    | dK (kvs : List (Key × V)) | dT (kvs : List (List Key × V))
    | set (S : Int → Bool) (n : Nat)
    | ins (C dx : Addr) (fs : List (Str × V))
    | own (x : Addr)
    | xd (fs : List (Str × V))
    | met (f x : Addr)
    | rng (lo hi : Int)
    | frz (o : Obj) (u : HO)
    | tbl (ps : Array Value)
    | ext (φ : Heap → Prop)
abbrev Hp := Addr → Option HO
def upd (H : Hp) (a : Addr) (o : HO) : Hp := fun b => if b = a then some o else H b
theorem upd_same {H : Hp} {a : Addr} {o : HO} : upd H a o a = some o := by unfold upd; rw [if_pos rfl]
theorem upd_ne {H : Hp} {a b : Addr} {o : HO} (h : b ≠ a) : upd H a o b = H b := by unfold upd; rw [if_neg h]
theorem ne_of_none {H : Hp} {a b : Addr} {o : HO} (h : H a = some o) (h' : H b = none) : a ≠ b := by
  intro e; subst e; rw [h] at h'; cases h'
section
variable (P : Program) (w : World)
def ObjOk (H : Hp) (h : Heap) (a : Addr) : HO → Prop
  | .lst xs => xs.length ≤ sizeLine ∧ ∃ (its : List Value) (n : Nat), Vals xs its ∧ h.get? a = some { cls := .type "list", data := .seq its.toArray n }
  | .tup xs => xs.length ≤ sizeLine ∧ ∃ its : List Value, Vals xs its ∧ IsTup h a its.toArray
  | .dK kvs => kvs.length ≤ sizeLine ∧ (a == sysModules) = false ∧ ∃ vs, KV kvs vs ∧ h.DictOf (mixKind P w) a vs
  | .dT kvs => kvs.length ≤ sizeLine ∧ (a == sysModules) = false ∧ ∃ xs : List (List Key × Addr × Value),
      Paired (fun (p : List Key × V) (q : List Key × Addr × Value) => p.1 = q.1 ∧ H q.2.1 = some (.tup (p.1.map kV)) ∧ RelV p.2 q.2.2) kvs xs ∧
      ∃ o es ep, h.get? a = some o ∧ o.ExactDict ∧ o.data = .dict es ep ∧ es.toList = xs.map (entryOfKey (tupleKind (mixKind P w))) ∧ (xs.map (·.1)).Nodup
  | .set S n => h.SetOf (intKind P w) a S n
  | .ins C dx fs => H dx = some (.own a) ∧ fs.length ≤ 1000 ∧ dx ≠ a ∧ h.get? a = some (PySem.W.instObj C dx) ∧
      ∃ mA, h.Ns1 dx mA ∧ (∀ f, RelO (fs.lookup f) (mA f)) ∧ PySem.Within mA (fs.map (·.1))
  | .own _ => ∃ o, h.get? a = some o
  | .xd fs => ∃ mA, h.Ns1 a mA ∧ ∀ f, RelO (fs.lookup f) (mA f)
  | .rng lo hi => ∃ t u v, h.get? a = some { cls := .type "range", data := .fields #[.int lo t, .int hi u, .int 1 v] }
  | .frz o u => h.get? a = some o ∧ ObjOk H h a u
  | .tbl ps => h.get? a = some { cls := .none, data := .fields ps }
  | .met f x => h.get? a = some (PySem.W.methodObj (.ref f) (.ref x))
  | .ext φ => φ h ∧ (∃ o, h.get? a = some o) ∧ ∀ h1 h2 : Heap, φ h1 → (∀ o, h1.get? a = some o → h2.get? a = some o) → φ h2
def HOk (H : Hp) (h : Heap) : Prop := ∀ a o, H a = some o → ObjOk P w H h a o
end
section
variable {P : Program} {w : World} {H H' : Hp} {h h' : Heap} {a : Addr} {o : HO}
theorem ObjOk.lt (x : ObjOk P w H h a o) : a < h.objs.size := by
  cases o with
  | lst xs => obtain ⟨_, _, _, _, e⟩ := x; exact Heap.lt_size e
  | tup xs => obtain ⟨_, _, _, p⟩ := x; exact p.lt
  | dK kvs => obtain ⟨_, _, _, _, o, _, _, e, _⟩ := x; exact Heap.lt_size e
  | dT kvs => obtain ⟨_, _, _, _, o, _, _, e, _⟩ := x; exact Heap.lt_size e
  | set S n => obtain ⟨o, _, _, _, e, _⟩ := x; exact Heap.lt_size e
  | ins C dx fs => obtain ⟨_, _, _, e, _⟩ := x; exact Heap.lt_size e
  | own y => obtain ⟨_, e⟩ := x; exact Heap.lt_size e
  | xd fs => obtain ⟨_, ⟨_, _, _, e, _⟩, _⟩ := x; exact Heap.lt_size e
  | rng lo hi => obtain ⟨_, _, _, e⟩ := x; exact Heap.lt_size e
  | frz ob u => obtain ⟨e, _⟩ := x; exact Heap.lt_size e
  | tbl ps => exact Heap.lt_size (show h.get? a = some _ from x)
  | met f y => exact Heap.lt_size (show h.get? a = some _ from x)
  | ext φ => obtain ⟨_, ⟨_, e⟩, _⟩ := x; exact Heap.lt_size e
theorem Paired.mapP {α β : Type} {F G : α → β → Prop} : ∀ {l₁ : List α} {l₂ : List β}, Paired F l₁ l₂ → (∀ a b, F a b → G a b) → Paired G l₁ l₂
  | _, _, .nil, _ => .nil
  | _, _, .cons r t, f => .cons (f _ _ r) (Paired.mapP t f)
theorem ObjOk.stay (x : ObjOk P w H h a o) (k : ∀ b u, (b = a ∨ H b = some (.own a)) → h.get? b = some u → h'.get? b = some u)
    (ho : ∀ b, H b = some (.own a) → H' b = some (.own a)) (ht : ∀ b xs, H b = some (.tup xs) → H' b = some (.tup xs)) : ObjOk P w H' h' a o := by
  induction o with
  | lst xs => obtain ⟨z, its, n, r, e⟩ := x; exact ⟨z, its, n, r, k _ _ (.inl rfl) e⟩
  | tup xs => obtain ⟨z, its, r, ob, e, c⟩ := x; exact ⟨z, its, r, ob, k _ _ (.inl rfl) e, c⟩
  | dK kvs => obtain ⟨z, y, vs, r, ob, es, ep, e, c⟩ := x; exact ⟨z, y, vs, r, ob, es, ep, k _ _ (.inl rfl) e, c⟩
  | dT kvs =>
    obtain ⟨z, y, xs, r, ob, es, ep, e, c⟩ := x
    exact ⟨z, y, xs, Paired.mapP r fun p q z => ⟨z.1, ht _ _ z.2.1, z.2.2⟩, ob, es, ep, k _ _ (.inl rfl) e, c⟩
  | set S n => obtain ⟨ob, es, ep, t, e, c⟩ := x; exact ⟨ob, es, ep, t, k _ _ (.inl rfl) e, c⟩
  | ins C dx fs =>
    obtain ⟨d, z, ne, e, mA, ⟨od, es, ep, e2, c⟩, r⟩ := x
    exact ⟨ho _ d, z, ne, k _ _ (.inl rfl) e, mA, ⟨od, es, ep, k _ _ (.inr d) e2, c⟩, r⟩
  | own y => obtain ⟨ob, e⟩ := x; exact ⟨ob, k _ _ (.inl rfl) e⟩
  | xd fs => obtain ⟨mA, ⟨od, es, ep, e, c⟩, r⟩ := x; exact ⟨mA, ⟨od, es, ep, k _ _ (.inl rfl) e, c⟩, r⟩
  | rng lo hi => obtain ⟨t, u, v, e⟩ := x; exact ⟨t, u, v, k _ _ (.inl rfl) e⟩
  | frz ob u ih => obtain ⟨e, q⟩ := x; exact ⟨k _ _ (.inl rfl) e, ih q⟩
  | tbl ps =>
    have e : h.get? a = some { cls := .none, data := .fields ps } := x
    show h'.get? a = some { cls := .none, data := .fields ps }
    exact k a _ (.inl rfl) e
  | met f y =>
    have e : h.get? a = some (PySem.W.methodObj (.ref f) (.ref y)) := x
    show h'.get? a = some (PySem.W.methodObj (.ref f) (.ref y))
    exact k a _ (.inl rfl) e
  | ext φ => obtain ⟨p, ⟨o, e⟩, st⟩ := x; exact ⟨st _ _ p fun o q => k _ _ (.inl rfl) q, ⟨o, k _ _ (.inl rfl) e⟩, st⟩
theorem HOk.lt (x : HOk P w H h) (e : H a = some o) : a < h.objs.size := (x a o e).lt
theorem HOk.fresh (x : HOk P w H h) (e : h.objs.size ≤ a) : H a = none := by
  cases q : H a with
  | none => rfl
  | some u => exact absurd (Nat.lt_of_lt_of_le (x.lt q) e) (Nat.lt_irrefl _)
theorem HOk.kept (x : HOk P w H h) (k : ∀ b u, h.get? b = some u → h'.get? b = some u) : HOk P w H h' := fun a o e =>
  (x a o e).stay (fun b u _ q => k b u q) (fun _ q => q) fun _ _ q => q
theorem HOk.laid (x : HOk P w H h) (k : ∀ b u, h.get? b = some u → h'.get? b = some u) (hp : h.objs.size ≤ a) (new : ObjOk P w (upd H a o) h' a o) : HOk P w (upd H a o) h' := fun b u e => by
  have hn := x.fresh hp
  by_cases hb : b = a
  · subst hb; rw [upd_same] at e; cases e; exact new
  · rw [upd_ne hb] at e
    exact (x b u e).stay (fun c v _ q => k c v q) (fun c q => by rw [upd_ne (ne_of_none q hn)]; exact q) fun c xs q => by rw [upd_ne (ne_of_none q hn)]; exact q
end
def Rd (H : Hp) (a : Addr) (u : HO) : Prop := H a = some u ∨ ∃ o, H a = some (.frz o u)
theorem Rd.ok {P : Program} {w : World} {H : Hp} {h : Heap} {a : Addr} {u : HO} (r : Rd H a u) (x : HOk P w H h) : ObjOk P w H h a u := by
  rcases r with r | ⟨o, r⟩
  · exact x a u r
  · obtain ⟨_, q⟩ := x a _ r
    exact q
def Mut : Option HO → Prop
  | some (.lst _) => True
  | some (.dK _) => True
  | some (.dT _) => True
  | some (.set _ _) => True
  | some (.ins _ _ _) => True
  | some (.ext _) => True
  | _ => False
section
variable {P : Program} {w : World} {H : Hp} {h h' : Heap} {x e : Addr} {o' : HO}
theorem HOk.write (ok : HOk P w H h) (mu : Mut (H x)) (he : e = x ∨ H e = some (.own x)) (k : ∀ b u, b ≠ e → h.get? b = some u → h'.get? b = some u) (heo : ∃ u, h'.get? e = some u)
    (new : ObjOk P w (upd H x o') h' x o') : HOk P w (upd H x o') h' := fun b u q => by
  have nown : ∀ c y, H c = some (.own y) → c ≠ x := fun c y r z => by subst z; rw [r] at mu; exact mu
  have ntup : ∀ c xs, H c = some (.tup xs) → c ≠ x := fun c xs r z => by subst z; rw [r] at mu; exact mu
  by_cases hb : b = x
  · subst hb; rw [upd_same] at q; cases q; exact new
  · rw [upd_ne hb] at q
    by_cases hbe : b = e
    · have q' : H b = some (.own x) := by
        rcases he with z | z
        · exact absurd (hbe.trans z) hb
        · rw [hbe]; exact z
      rw [q] at q'; cases q'
      obtain ⟨v, hv⟩ := heo
      exact ⟨v, by rw [hbe]; exact hv⟩
    · refine (ok b u q).stay (fun c v hc r => k c v ?_ r) (fun c r => by rw [upd_ne (nown c b r)]; exact r) fun c xs r => by rw [upd_ne (ntup c xs r)]; exact r
      rcases hc with rfl | hc
      · exact hbe
      · rintro rfl
        rcases he with z | z
        · exact nown c b hc z
        · rw [hc] at z; cases z; exact hb rfl
end
structure Un (fs ex : List Addr) (H H' : Hp) (h h' : Heap) : Prop where
  keep : ∀ b o, h.get? b = some o → H b = none → b ∉ fs → b ∉ ex → h'.get? b = some o
  slot : ∀ b o, h.get? b = some o → H b = none → b ∈ fs → b ∉ ex → ∃ sl, h'.get? b = some { o with slots := sl }
  free : ∀ b o, h.get? b = some o → H b = none → b ∉ ex → H' b = none
  there : ∀ b o, h.get? b = some o → b ∉ ex → ∃ o', h'.get? b = some o'
  tups : ∀ b xs, H b = some (.tup xs) → H' b = some (.tup xs)
  frzs : ∀ b o u, H b = some (.frz o u) → H' b = some (.frz o u)
  tbls : ∀ b ps, H b = some (.tbl ps) → ∃ more, H' b = some (.tbl (ps ++ more))
section
variable {fs fs' ex ex' : List Addr} {H H1 H2 : Hp} {h h1 h2 h' : Heap} {a x e : Addr} {o : HO}
theorem Un.any (u : Un fs ex H H1 h h1) {b : Addr} {ob : Obj} (q : h.get? b = some ob) (n : H b = none) (hx : b ∉ ex) : ∃ sl, h1.get? b = some { ob with slots := sl } := by
  by_cases hb : b ∈ fs
  · exact u.slot b ob q n hb hx
  · exact ⟨ob.slots, u.keep b ob q n hb hx⟩
theorem Un.kept (k : ∀ b u, h.get? b = some u → h'.get? b = some u) : Un fs ex H H h h' :=
  ⟨fun b ob q _ _ _ => k b ob q, fun b ob q _ _ _ => ⟨ob.slots, k b ob q⟩, fun _ _ _ n _ => n, fun b ob q _ => ⟨ob, k b ob q⟩, fun _ _ q => q, fun _ _ _ q => q, fun _ ps q => ⟨#[], by rw [q]; simp⟩⟩
theorem Un.refl : Un fs ex H H h h := Un.kept fun _ _ q => q
theorem Un.laid (k : ∀ b u, h.get? b = some u → h'.get? b = some u) (hp : h.objs.size ≤ a) (hn : H a = none) : Un fs ex H (upd H a o) h h' where
  keep := fun b u q _ _ _ => k b u q
  slot := fun b u q _ _ _ => ⟨u.slots, k b u q⟩
  free := fun b u q n _ => by rw [upd_ne (Nat.ne_of_lt (Nat.lt_of_lt_of_le (Heap.lt_size q) hp))]; exact n
  there := fun b u q _ => ⟨u, k b u q⟩
  tups := fun b xs q => by rw [upd_ne (ne_of_none q hn)]; exact q
  frzs := fun b u xs q => by rw [upd_ne (ne_of_none q hn)]; exact q
  tbls := fun b ps q => ⟨#[], by rw [upd_ne (ne_of_none q hn), q]; simp⟩
theorem Un.write (mu : Mut (H x)) (he : e = x ∨ H e = some (.own x)) (k : ∀ b u, b ≠ e → h.get? b = some u → h'.get? b = some u) (heo : ∃ u, h'.get? e = some u) : Un fs ex H (upd H x o) h h' := by
  have hx : ∀ b, H b = none → b ≠ x := fun b n z => by subst z; rw [n] at mu; exact mu
  have hb : ∀ b, H b = none → b ≠ e := fun b n z => by
    subst z
    rcases he with r | r
    · exact hx b n r
    · rw [n] at r; cases r
  have hm : ∀ b u, H b = some u → ¬ Mut (some u) → b ≠ x := fun b u q nm z => by subst z; rw [q] at mu; exact nm mu
  refine ⟨fun b u q n _ _ => k b u (hb b n) q, fun b u q n _ _ => ⟨u.slots, k b u (hb b n) q⟩, fun b u q n _ => by rw [upd_ne (hx b n)]; exact n, fun b u q _ => ?_,
    fun b xs q => by rw [upd_ne (hm b _ q fun z => z)]; exact q, fun b u xs q => by rw [upd_ne (hm b _ q fun z => z)]; exact q, fun b ps q => ⟨#[], by rw [upd_ne (hm b _ q fun z => z), q]; simp⟩⟩
  by_cases hbe : b = e
  · subst hbe; exact heo
  · exact ⟨u, k b u hbe q⟩
end
def trk (h : Heap) (H : Hp) : List Addr := (List.range h.objs.size).filter fun a => (H a).isSome
def hidT (h : Heap) (H : Hp) : Heap := PySem.W.hideAll h (trk h H)
theorem hidT_size (h : Heap) (H : Hp) : (hidT h H).objs.size = h.objs.size := PySem.W.hideAll_size _ _
theorem hidT_get {h : Heap} {H : Hp} {b : Addr} {o : Obj} (e : h.get? b = some o) (n : H b = none) : (hidT h H).get? b = some o :=
  PySem.W.hideAll_get _ e fun hm => by
    have q : (H b).isSome = true := (List.mem_filter.mp hm).2
    rw [n] at q; simp at q
theorem of_hidT {h : Heap} {H : Hp} {b : Addr} {o : Obj} (e : (hidT h H).get? b = some o) : h.get? b = some o ∧ H b = none := by
  have e' : h.get? b = some o := PySem.W.of_hideAll (trk h H) e
  refine ⟨e', ?_⟩
  cases q : H b with
  | none => rfl
  | some x =>
    have hm : b ∈ trk h H := List.mem_filter.mpr ⟨List.mem_range.mpr (Heap.lt_size e'), by simp [q]⟩
    have z : (hidT h H).get? b = none := PySem.W.hideAll_none (trk h H) hm
    rw [z] at e; cases e
end L2
namespace L2
open PySem PySem.Spec PyProof.Rows
structure Mod (K : PySem.W.Frag) (mg : Str → Option Value) (base : Heap) : Prop where
  kin : K.In base
  glob : base.Ns mainGlobals mg
  blt : ∃ mb, base.Ns builtinsNs mb ∧ ∀ x : Str, x ≠ "__name__" → mb x = bootBuiltins x
  nolimit : base.NoLimit
structure Cx where
  prog : Program
  w : World
  K : PySem.W.Frag
  mg : Str → Option Value
  base : Heap
  A : Around
  N : List Str
  s_0 : Shared
  H_0 : Hp
  env : Env
  outer : List Env
  stack : List Env
  ex : List Addr
  fn : Str → Bool
  calm : Bool
  pn : List (Addr × Obj)
  xe : Value → Shared → Prop
def frs (l : List Env) : List Addr := l.filterMap (·.frame)
abbrev Cx.fs (X : Cx) : List Addr := frs X.outer
def Vis (sc : Scope) (x : Str) : Prop := sc.names.lookup x = some .local ∨ sc.names.lookup x = some .cell ∨ sc.names.lookup x = some .free
def Loc (sc : Scope) (x : Str) : Prop := sc.names.lookup x = some .local ∨ sc.names.lookup x = some .cell
def Look (env : Env) (h : Heap) (m : Str → Option Value) (x : Str) (u : Value) : Prop :=
  (env.kindOf x = some .local ∧ m x = some u) ∨ ((env.kindOf x = some .cell ∨ env.kindOf x = some .free) ∧ ∃ c, env.cells.lookup x = some c ∧ h.IsCell c (some u))
structure Cx.Ok (X : Cx) : Prop where
  mod : Mod X.K X.mg X.base
  kind : X.env.scope.kind = .function
  glob : X.env.globals = mainGlobals
  blt : X.env.builtins = builtinsNs
  above : X.s_0.heap.objs.size ≤ X.env.locals
  inj : ∀ x y c, X.env.cells.lookup x = some c → X.env.cells.lookup y = some c → x = y
  has : ∀ x, (X.env.kindOf x = some .cell ∨ X.env.kindOf x = some .free) → ∃ c, X.env.cells.lookup x = some c
  cab : ∀ x c, X.fn x = true → X.env.cells.lookup x = some c → X.s_0.heap.objs.size ≤ c
  hd : X.calm = true → X.A.handled = none
  frames : X.A.frames = some X.stack
  stk : X.stack = X.outer ∨ (X.stack = X.env :: X.outer ∧ X.env.frame = some X.env.locals)
  exf : ∀ b ∈ X.ex, b ≠ X.env.locals ∧ ∀ x c, X.env.cells.lookup x = some c → c ≠ b
  bs : ∀ b o, X.base.get? b = some o → X.s_0.heap.get? b = some o ∧ X.H_0 b = none
  bsz : X.base.objs.size ≤ X.s_0.heap.objs.size
  noex : ∀ b o, X.base.get? b = some o → b ∉ X.ex
  exfs : ∀ b ∈ X.ex, b ∉ X.fs
  funs : X.s_0.heap.FunFrames X.base X.outer
  frf : ∀ b ∈ X.fs, X.H_0 b = none
structure Inv (X : Cx) (pins : List (Addr × Obj)) (σ : List (Option V)) (H : Hp) (s : Shared) : Prop where
  ok : X.Ok
  os : s.os = X.s_0.os
  bare : AllBare s.gens
  base : Un X.fs X.ex X.H_0 H X.s_0.heap s.heap
  loc : ∃ m, s.heap.Ns X.env.locals m ∧ ∀ (i : Nat) (x : Str) (v : V), X.N[i]? = some x → σ[i]? = some (some v) → Vis X.env.scope x → ∃ u, RelV v u ∧ Look X.env s.heap m x u
  cell : ∀ x c, X.env.cells.lookup x = some c → ∃ v, s.heap.IsCell c v
  free : H X.env.locals = none
  freeC : ∀ x c, X.env.cells.lookup x = some c → H c = none
  pin : ∀ p ∈ X.pn ++ pins, s.heap.get? p.1 = some p.2 ∧ H p.1 = none ∧ p.1 ≠ X.env.locals ∧ p.1 ∉ X.fs ∧ ∀ v, p.2.data ≠ .cell v
  hok : HOk X.prog X.w H s.heap
  len : σ.length = X.N.length
section
variable {X : Cx} {pins : List (Addr × Obj)} {σ : List (Option V)} {H H' : Hp} {s : Shared} {h' : Heap}
theorem Cx.Ok.nofr (ok : X.Ok) {b : Addr} {o : Obj} (e : X.base.get? b = some o) : b ∉ X.fs := fun hb => by
  have := (ok.funs.mem hb).1
  rw [e] at this; cases this
theorem Inv.bs (I : Inv X pins σ H s) : ∀ b o, X.base.get? b = some o → s.heap.get? b = some o ∧ H b = none := fun b o e =>
  ⟨I.base.keep b o (I.ok.bs b o e).1 (I.ok.bs b o e).2 (I.ok.nofr e) (I.ok.noex b o e), I.base.free b o (I.ok.bs b o e).1 (I.ok.bs b o e).2 (I.ok.noex b o e)⟩
theorem Inv.bk (I : Inv X pins σ H s) : ∀ b o, X.base.get? b = some o → s.heap.get? b = some o := fun b o e => (I.bs b o e).1
theorem Inv.mod (I : Inv X pins σ H s) : Mod X.K X.mg X.base := I.ok.mod
theorem Inv.kIn (I : Inv X pins σ H s) : X.K.In s.heap := I.ok.mod.kin.keeps I.bk
theorem Inv.lt (I : Inv X pins σ H s) : X.env.locals < s.heap.objs.size := let ⟨_, hn, _⟩ := I.loc; hn.lt
theorem Inv.sz (I : Inv X pins σ H s) : X.s_0.heap.objs.size ≤ s.heap.objs.size := Nat.le_trans I.ok.above (Nat.le_of_lt I.lt)
theorem Inv.nofs (I : Inv X pins σ H s) {a : Addr} (h : s.heap.objs.size ≤ a) : a ∉ X.fs := fun hb => by
  obtain ⟨_, o, ho, _⟩ := I.ok.funs.mem hb
  exact absurd (Nat.lt_of_lt_of_le (Heap.lt_size ho) (Nat.le_trans I.sz h)) (Nat.lt_irrefl _)
theorem Inv.cne (I : Inv X pins σ H s) : ∀ x c, X.env.cells.lookup x = some c → c ≠ X.env.locals := fun x c e z => by
  obtain ⟨v, o, ho, hd⟩ := I.cell x c e
  obtain ⟨m, ⟨o', es, ep, ho', hd', _⟩, _⟩ := I.loc
  rw [z, ho'] at ho; cases ho; rw [hd'] at hd; cases hd
theorem Inv.funs (I : Inv X pins σ H s) : s.heap.FunFrames X.base X.outer := by
  have all : ∀ (l : List Env), (∀ b ∈ frs l, b ∈ X.fs) → X.s_0.heap.FunFrames X.base l → s.heap.FunFrames X.base l := by
    intro l
    induction l with
    | nil => intro _ _; trivial
    | cons env r ih =>
      intro hs hl
      obtain ⟨hk, ⟨L, o, hf, hn, ho, hd⟩, hr⟩ := hl
      have hL : L ∈ X.fs := hs L (by unfold frs; rw [List.filterMap_cons, hf]; exact List.mem_cons_self)
      obtain ⟨sl, e⟩ := I.base.slot L o ho (I.ok.frf L hL) hL fun z => I.ok.exfs L z hL
      exact ⟨hk, ⟨L, _, hf, hn, e, hd⟩, ih (fun b hb => hs b (by unfold frs; rw [List.filterMap_cons, hf]; exact List.mem_cons_of_mem _ hb)) hr⟩
  exact all X.outer (fun _ hb => hb) I.ok.funs
theorem Inv.stack (I : Inv X pins σ H s) : s.heap.FunFrames X.base X.stack := by
  rcases I.ok.stk with e | ⟨e, hf⟩
  · rw [e]; exact I.funs
  · rw [e]
    obtain ⟨m, hn, _⟩ := I.loc
    refine .cons (by rw [I.ok.kind]; decide) hf hn ?_ I.funs
    exact Heap.get?_none_of_le (Nat.le_trans I.ok.bsz I.ok.above)
theorem Inv.stkSub (I : Inv X pins σ H s) : ∀ b ∈ frs X.stack, b ∈ X.env.locals :: X.fs := fun b hb => by
  rcases I.ok.stk with e | ⟨e, hf⟩
  · rw [e] at hb; exact List.mem_cons_of_mem _ hb
  · rw [e] at hb
    unfold frs at hb
    rw [List.filterMap_cons, hf] at hb
    exact hb
theorem Inv.stkFree (I : Inv X pins σ H s) : ∀ b ∈ frs X.stack, H b = none := fun b hb => by
  rcases List.mem_cons.mp (I.stkSub b hb) with e | hb
  · rw [e]; exact I.free
  · obtain ⟨_, o, ho, _⟩ := I.ok.funs.mem hb
    exact I.base.free b o ho (I.ok.frf b hb) fun z => I.ok.exfs b z hb
theorem Inv.step {g' : Array GenState} {t' : Nat} {d' : Drawn} {ch : List Addr} (I : Inv X pins σ H s)
    (hch : ∀ b ∈ ch, (b ∈ X.ex ∨ X.s_0.heap.objs.size ≤ b) ∧ b ≠ X.env.locals ∧ (∀ x c, X.env.cells.lookup x = some c → c ≠ b) ∧ ∀ p ∈ X.pn ++ pins, p.1 ≠ b)
    (keep : ∀ b o, b ≠ X.env.locals → b ∉ X.fs → b ∉ ch → s.heap.get? b = some o → H b = none → h'.get? b = some o)
    (slot : ∀ b o, b ≠ X.env.locals → b ∈ X.fs → b ∉ ch → s.heap.get? b = some o → H b = none → ∃ sl, h'.get? b = some { o with slots := sl }) (free : ∀ b o, b ∉ ch → s.heap.get? b = some o → H b = none → H' b = none)
    (there : ∀ b o, b ∉ ch → s.heap.get? b = some o → ∃ o', h'.get? b = some o')
    (tups : ∀ b xs, H b = some (.tup xs) → H' b = some (.tup xs)) (frzs : ∀ b o u, H b = some (.frz o u) → H' b = some (.frz o u)) (tbls : ∀ b ps, H b = some (.tbl ps) → ∃ more, H' b = some (.tbl (ps ++ more)))
    (ns : ∀ m, s.heap.Ns X.env.locals m → h'.Ns X.env.locals m) (hok : HOk X.prog X.w H' h') (hg : AllBare g') :
    Inv X pins σ H' { s with heap := h', gens := g', drawn := d', toks := t' } := by
  have neL : ∀ b o, X.s_0.heap.get? b = some o → b ≠ X.env.locals := fun b o e => Nat.ne_of_lt (Nat.lt_of_lt_of_le (Heap.lt_size e) I.ok.above)
  have neC : ∀ b o, X.s_0.heap.get? b = some o → b ∉ X.ex → b ∉ ch := fun b o e hx hb => by
    rcases (hch b hb).1 with z | z
    · exact hx z
    · exact absurd (Nat.lt_of_lt_of_le (Heap.lt_size e) z) (Nat.lt_irrefl _)
  have cellK : ∀ x c, X.env.cells.lookup x = some c → ∀ v, s.heap.IsCell c v → h'.IsCell c v := fun x c e v ⟨o, ho, hd⟩ => by
    have nch : c ∉ ch := fun z => (hch c z).2.2.1 x c e rfl
    by_cases hc : c ∈ X.fs
    · obtain ⟨sl, q⟩ := slot c o (I.cne x c e) hc nch ho (I.freeC x c e)
      exact ⟨_, q, hd⟩
    · exact ⟨o, keep c o (I.cne x c e) hc nch ho (I.freeC x c e), hd⟩
  refine ⟨I.ok, I.os, hg, ⟨fun b o e n hb hx => ?_, fun b o e n hb hx => ?_, fun b o e n hx => ?_, fun b o e hx => ?_, fun b xs e => tups b xs (I.base.tups b xs e), fun b o xs e => frzs b o xs (I.base.frzs b o xs e), fun b ps e => ?_⟩, ?_, fun x c e => ?_, ?_, fun x c e => ?_, fun p hp => ?_, hok, I.len⟩
  · exact keep b o (neL b o e) hb (neC b o e hx) (I.base.keep b o e n hb hx) (I.base.free b o e n hx)
  · obtain ⟨sl, e1⟩ := I.base.slot b o e n hb hx
    obtain ⟨sl', e2⟩ := slot b _ (neL b o e) hb (neC b o e hx) e1 (I.base.free b o e n hx)
    exact ⟨sl', e2⟩
  · obtain ⟨o', e1⟩ := I.base.there b o e hx
    exact free b o' (neC b o e hx) e1 (I.base.free b o e n hx)
  · obtain ⟨o', e1⟩ := I.base.there b o e hx
    exact there b o' (neC b o e hx) e1
  · obtain ⟨m1, e1⟩ := I.base.tbls b ps e
    obtain ⟨m2, e2⟩ := tbls b _ e1
    exact ⟨m1 ++ m2, by rw [e2, Array.append_assoc]⟩
  · obtain ⟨m, hn, hl⟩ := I.loc
    refine ⟨m, ns m hn, fun i x v e1 e2 e3 => ?_⟩
    obtain ⟨u, r, l⟩ := hl i x v e1 e2 e3
    refine ⟨u, r, ?_⟩
    rcases l with l | ⟨k, c, e, z⟩
    · exact .inl l
    · exact .inr ⟨k, c, e, cellK x c e _ z⟩
  · obtain ⟨v, z⟩ := I.cell x c e
    exact ⟨v, cellK x c e v z⟩
  · obtain ⟨m, ⟨o, _, _, ho, _⟩, _⟩ := I.loc
    exact free _ o (fun z => (hch _ z).2.1 rfl) ho I.free
  · obtain ⟨v, o, ho, hd⟩ := I.cell x c e
    exact free c o (fun z => (hch c z).2.2.1 x c e rfl) ho (I.freeC x c e)
  · obtain ⟨e, n, ne, nf, d⟩ := I.pin p hp
    have nch : p.1 ∉ ch := fun z => (hch p.1 z).2.2.2 p hp rfl
    exact ⟨keep p.1 p.2 ne nf nch e n, free p.1 p.2 nch e n, ne, nf, d⟩
theorem Inv.un {t' : Nat} (I : Inv X pins σ H s) (u : Un X.fs [] H H' s.heap h') (hok : HOk X.prog X.w H' h') : Inv X pins σ H' { s with heap := h', toks := t' } := by
  obtain ⟨m, ⟨o, es, ep, ho, r⟩, _⟩ := id I.loc
  obtain ⟨sl, hL⟩ := u.any ho I.free (by simp)
  exact I.step (g' := s.gens) (d' := s.drawn) (ch := []) (fun _ z => nomatch z) (fun b o _ hb _ e n => u.keep b o e n hb (by simp)) (fun b o _ hb _ e n => u.slot b o e n hb (by simp)) (fun b o _ e n => u.free b o e n (by simp)) (fun b o _ e => u.there b o e (by simp)) u.tups u.frzs u.tbls (fun m' hm => by
    obtain ⟨o', es', ep', ho', r'⟩ := hm
    rw [ho] at ho'; cases ho'
    exact ⟨_, es', ep', hL, r'⟩) hok I.bare
theorem Inv.call {g' : Array GenState} {t' : Nat} {d' : Drawn} {ch : List Addr} (I : Inv X pins σ H s) (u : Un (frs X.stack) ch H H' s.heap h') (hok : HOk X.prog X.w H' h') (hg : AllBare g')
    (hch : ∀ b ∈ ch, (b ∈ X.ex ∨ X.s_0.heap.objs.size ≤ b) ∧ b ≠ X.env.locals ∧ (∀ x c, X.env.cells.lookup x = some c → c ≠ b) ∧ ∀ p ∈ X.pn ++ pins, p.1 ≠ b) :
    Inv X pins σ H' { s with heap := h', gens := g', drawn := d', toks := t' } := by
  obtain ⟨m, ⟨o, es, ep, ho, r⟩, _⟩ := id I.loc
  obtain ⟨sl, hL⟩ := u.any ho I.free fun z => (hch _ z).2.1 rfl
  exact I.step (ch := ch) hch (fun b o hL hb hc e n => u.keep b o e n (fun z => (List.mem_cons.mp (I.stkSub b z)).elim hL hb) hc) (fun b o _ _ hc e n => u.any e n hc) (fun b o hc e n => u.free b o e n hc) (fun b o hc e => u.there b o e hc) u.tups u.frzs u.tbls (fun m' hm => by
    obtain ⟨o', es', ep', ho', r'⟩ := hm
    rw [ho] at ho'; cases ho'
    exact ⟨_, es', ep', hL, r'⟩) hok hg
theorem Inv.turned {t' : Nat} {it : Addr} (I : Inv X pins σ H s) (k : ∀ b o, b ≠ it → s.heap.get? b = some o → h'.get? b = some o) (hn : H it = none) (hL : it ≠ X.env.locals)
    (h1 : it ∈ X.ex ∨ X.s_0.heap.objs.size ≤ it) (h2 : ∀ x c, X.env.cells.lookup x = some c → c ≠ it) (h3 : ∀ p ∈ X.pn ++ pins, p.1 ≠ it) : Inv X pins σ H { s with heap := h', toks := t' } := by
  have nit : ∀ b u, H b = some u → b ≠ it := fun b u e z => by rw [z, hn] at e; cases e
  refine I.step (g' := s.gens) (d' := s.drawn) (ch := [it]) (fun b hb => ?_) (fun b o _ _ hc e _ => k b o (fun z => hc (by simp [z])) e) (fun b o _ _ hc e _ => ⟨o.slots, k b o (fun z => hc (by simp [z])) e⟩) (fun _ _ _ _ n => n)
    (fun b o hc e => ⟨o, k b o (fun z => hc (by simp [z])) e⟩) (fun _ _ e => e) (fun _ _ _ e => e) (fun b ps e => ⟨#[], by rw [e]; simp⟩) (fun m hm => ?_) (fun b u e => ?_) I.bare
  · have e : b = it := by simpa using hb
    subst e
    exact ⟨h1, hL, h2, h3⟩
  · obtain ⟨o, es, ep, ho, r⟩ := hm
    exact ⟨o, es, ep, k _ o (Ne.symm hL) ho, r⟩
  · refine (I.hok b u e).stay (fun c v hc q => k c v ?_ q) (fun _ q => q) fun _ _ q => q
    rcases hc with z | z
    · rw [z]; exact nit b u e
    · exact nit c _ z
theorem Inv.tok (I : Inv X pins σ H s) (t : Nat) : Inv X pins σ H { s with toks := t } := I.un (h' := s.heap) (t' := t) Un.refl I.hok
theorem Inv.kept {t' : Nat} (I : Inv X pins σ H s) (k : ∀ b u, s.heap.get? b = some u → h'.get? b = some u) : Inv X pins σ H { s with heap := h', toks := t' } := I.un (Un.kept k) (I.hok.kept k)
theorem Inv.laid {a : Addr} {o : HO} {t' : Nat} (I : Inv X pins σ H s) (k : ∀ b u, s.heap.get? b = some u → h'.get? b = some u) (hp : s.heap.objs.size ≤ a) (new : ObjOk X.prog X.w (upd H a o) h' a o) :
    Inv X pins σ (upd H a o) { s with heap := h', toks := t' } := I.un (Un.laid k hp (I.hok.fresh hp)) (I.hok.laid k hp new)
theorem Inv.write {x e : Addr} {o : HO} {t' : Nat} (I : Inv X pins σ H s) (mu : Mut (H x)) (he : e = x ∨ H e = some (.own x)) (k : ∀ b u, b ≠ e → s.heap.get? b = some u → h'.get? b = some u) (heo : ∃ u, h'.get? e = some u)
    (new : ObjOk X.prog X.w (upd H x o) h' x o) : Inv X pins σ (upd H x o) { s with heap := h', toks := t' } := I.un (Un.write mu he k heo) (I.hok.write mu he k heo new)
theorem Inv.weak {σ' : List (Option V)} (I : Inv X pins σ H s) (hl : σ'.length = σ.length) (w : ∀ (i : Nat) v, σ'[i]? = some (some v) → σ[i]? = some (some v)) : Inv X pins σ' H s :=
  ⟨I.ok, I.os, I.bare, I.base, let ⟨m, hn, hl'⟩ := I.loc; ⟨m, hn, fun i x v e1 e2 e3 => hl' i x v e1 (w i v e2) e3⟩, I.cell, I.free, I.freeC, I.pin, I.hok, hl.trans I.len⟩
theorem Inv.pins_of {pins' : List (Addr × Obj)} (I : Inv X pins σ H s) (h : ∀ p ∈ pins', s.heap.get? p.1 = some p.2 ∧ H p.1 = none ∧ p.1 ≠ X.env.locals ∧ p.1 ∉ X.fs ∧ ∀ v, p.2.data ≠ .cell v) : Inv X pins' σ H s :=
  ⟨I.ok, I.os, I.bare, I.base, I.loc, I.cell, I.free, I.freeC, fun p hp => (List.mem_append.mp hp).elim (fun z => I.pin p (List.mem_append_left _ z)) (h p), I.hok, I.len⟩
theorem nodup_ix {N : List Str} (hN : N.Nodup) {i j : Nat} {x : Str} (a : N[i]? = some x) (b : N[j]? = some x) : i = j := by
  obtain ⟨h1, e1⟩ := List.getElem?_eq_some_iff.mp a
  obtain ⟨h2, e2⟩ := List.getElem?_eq_some_iff.mp b
  exact (List.getElem_inj hN).mp (e1.trans e2.symm)
theorem store_ok2 {M : Model} {A : Around} {E : Value → Shared → Prop} {i : Nat} {x : Str} {v : V} {u : Value} {Q : Unit → Shared → Prop} (I : Inv X pins σ H s) (hN : X.N.Nodup) (hi : X.N[i]? = some x) (hx : Loc X.env.scope x) (r : RelV v u)
    (h : ∀ s', Inv X pins (σ.set i (some v)) H s' → (∃ a, Heap.SameBut a s.heap s'.heap ∧ (a = X.env.locals ∨ X.env.cells.lookup x = some a)) → Q () s') (hf : X.fn x = true ∨ X.env.scope.names.lookup x = some .local := by first | exact .inl rfl | exact .inr rfl | assumption) : wpAny M A (storeName X.env x u) Q E s := by
  obtain ⟨m, hn, hl⟩ := id I.loc
  have hcls : (X.env.scope.kind == .class || (X.env.scope.kind == .module && X.env.locals != X.env.globals)) = false := by rw [I.ok.kind]; rfl
  have hiσ : i < σ.length := by rw [I.len]; exact (List.getElem?_eq_some_iff.mp hi).1
  have cne := I.cne
  have tracked : ∀ {a : Addr} {h' : Heap}, (∃ o, s.heap.get? a = some o ∧ H a = none) → Heap.SameBut a s.heap h' → HOk X.prog X.w H h' := fun {a h'} ha hs b ob e => by
    obtain ⟨_, _, hfree⟩ := ha
    refine (I.hok b ob e).stay (fun c w' hc q => (hs.2 c ?_).trans q) (fun _ q => q) fun _ _ q => q
    rintro rfl
    rcases hc with rfl | hc
    · rw [hfree] at e; cases e
    · rw [hfree] at hc; cases hc
  rcases hx with hk | hk
  · refine wpAny_storeName_local hk hn (fun h' hn' hs => ?_) hcls
    obtain ⟨oL, _, _, hoL, _⟩ := id hn
    refine h _ ⟨I.ok, I.os, I.bare, ⟨fun b o e n hb hx => ?_, fun b o e n hb hx => ?_, I.base.free, fun b o e hx => ?_, I.base.tups, I.base.frzs, I.base.tbls⟩, ⟨_, hn', fun j y v' e1 e2 e3 => ?_⟩, fun y c e => ?_, I.free, I.freeC, fun p hp => ?_, tracked ⟨oL, hoL, I.free⟩ hs, by simpa using I.len⟩ ⟨_, hs, .inl rfl⟩
    · exact (hs.2 b (Nat.ne_of_lt (Nat.lt_of_lt_of_le (Heap.lt_size e) I.ok.above))).trans (I.base.keep b o e n hb hx)
    · obtain ⟨sl, e1⟩ := I.base.slot b o e n hb hx
      exact ⟨sl, (hs.2 b (Nat.ne_of_lt (Nat.lt_of_lt_of_le (Heap.lt_size e) I.ok.above))).trans e1⟩
    · obtain ⟨o', e1⟩ := I.base.there b o e hx
      exact ⟨o', (hs.2 b (Nat.ne_of_lt (Nat.lt_of_lt_of_le (Heap.lt_size e) I.ok.above))).trans e1⟩
    · by_cases hj : j = i
      · subst hj
        rw [hi] at e1; cases e1
        rw [List.getElem?_set_self hiσ] at e2
        cases e2
        exact ⟨u, r, .inl ⟨hk, by simp⟩⟩
      · rw [List.getElem?_set_ne (Ne.symm hj)] at e2
        obtain ⟨u', r', q⟩ := hl j y v' e1 e2 e3
        refine ⟨u', r', ?_⟩
        rcases q with ⟨k, e⟩ | ⟨k, c, e, z⟩
        · refine .inl ⟨k, ?_⟩
          have : y ≠ x := fun e => hj (nodup_ix hN e1 (e ▸ hi))
          simp [this, e]
        · exact .inr ⟨k, c, e, z.sameBut hs (cne y c e)⟩
    · obtain ⟨w', z⟩ := I.cell y c e
      exact ⟨w', z.sameBut hs (cne y c e)⟩
    · obtain ⟨e, n, ne, nf, d⟩ := I.pin p hp
      exact ⟨(hs.2 p.1 ne).trans e, n, ne, nf, d⟩
  · have hfn : X.fn x = true := by
      rcases hf with z | z
      · exact z
      · rw [z] at hk; cases hk
    obtain ⟨c, hc⟩ := I.ok.has x (.inl hk)
    obtain ⟨w', z⟩ := I.cell x c hc
    refine wpAny_storeName_cell I.ok.kind hk hc z (fun h' hc' hs => ?_)
    obtain ⟨oc, hoc, hocd⟩ := id z
    refine h { s with heap := h' } ⟨I.ok, I.os, I.bare, ⟨fun b o e n hb hx => ?_, fun b o e n hb hx => ?_, I.base.free, fun b o e hx => ?_, I.base.tups, I.base.frzs, I.base.tbls⟩, ⟨m, hn.sameBut hs (Ne.symm (cne x c hc)), fun j y v' e1 e2 e3 => ?_⟩, fun y c' e => ?_, I.free, I.freeC, fun p hp => ?_, tracked ⟨oc, hoc, I.freeC x c hc⟩ hs, by simpa using I.len⟩ ⟨c, hs, .inr hc⟩
    · exact (hs.2 b (Nat.ne_of_lt (Nat.lt_of_lt_of_le (Heap.lt_size e) (I.ok.cab x c hfn hc)))).trans (I.base.keep b o e n hb hx)
    · obtain ⟨sl, e1⟩ := I.base.slot b o e n hb hx
      exact ⟨sl, (hs.2 b (Nat.ne_of_lt (Nat.lt_of_lt_of_le (Heap.lt_size e) (I.ok.cab x c hfn hc)))).trans e1⟩
    · obtain ⟨o', e1⟩ := I.base.there b o e hx
      exact ⟨o', (hs.2 b (Nat.ne_of_lt (Nat.lt_of_lt_of_le (Heap.lt_size e) (I.ok.cab x c hfn hc)))).trans e1⟩
    · by_cases hj : j = i
      · subst hj
        rw [hi] at e1; cases e1
        rw [List.getElem?_set_self hiσ] at e2
        cases e2
        exact ⟨u, r, .inr ⟨.inl hk, c, hc, hc'⟩⟩
      · rw [List.getElem?_set_ne (Ne.symm hj)] at e2
        obtain ⟨u', r', q⟩ := hl j y v' e1 e2 e3
        refine ⟨u', r', ?_⟩
        rcases q with q | ⟨k, c', e, z'⟩
        · exact .inl q
        · refine .inr ⟨k, c', e, z'.sameBut hs ?_⟩
          rintro rfl
          exact hj (nodup_ix hN e1 (I.ok.inj _ _ _ e hc ▸ hi))
    · by_cases hcc : c' = c
      · subst hcc; exact ⟨_, hc'⟩
      · obtain ⟨w2, z2⟩ := I.cell y c' e
        exact ⟨w2, z2.sameBut hs hcc⟩
    · obtain ⟨e, n, ne, nf, d⟩ := I.pin p hp
      refine ⟨(hs.2 p.1 ?_).trans e, n, ne, nf, d⟩
      intro q
      rw [q, hoc] at e
      have q' : oc = p.2 := Option.some.inj e
      exact d w' (by rw [← q']; exact hocd)
theorem store_ok {M : Model} {A : Around} {E : Value → Shared → Prop} {i : Nat} {x : Str} {v : V} {u : Value} {Q : Unit → Shared → Prop} (I : Inv X pins σ H s) (hN : X.N.Nodup) (hi : X.N[i]? = some x) (hx : Loc X.env.scope x) (r : RelV v u)
    (h : ∀ s', Inv X pins (σ.set i (some v)) H s' → Q () s') (hf : X.fn x = true ∨ X.env.scope.names.lookup x = some .local := by first | exact .inl rfl | exact .inr rfl | assumption) : wpAny M A (storeName X.env x u) Q E s :=
  store_ok2 I hN hi hx r (fun s' I' _ => h s' I') hf
theorem Inv.call' {s' : Shared} {ch : List Addr} (I : Inv X pins σ H s) (ho : s'.os = s.os) (u : Un (frs X.stack) ch H H' s.heap s'.heap) (hok : HOk X.prog X.w H' s'.heap) (hg : AllBare s'.gens)
    (hch : ∀ b ∈ ch, (b ∈ X.ex ∨ X.s_0.heap.objs.size ≤ b) ∧ b ≠ X.env.locals ∧ (∀ x c, X.env.cells.lookup x = some c → c ≠ b) ∧ ∀ p ∈ X.pn ++ pins, p.1 ≠ b) : Inv X pins σ H' s' := by
  obtain ⟨h', g', d', t', o'⟩ := s'
  have e : o' = s.os := ho
  subst e
  exact I.call (g' := g') (t' := t') (d' := d') u hok hg hch
end
abbrev XK := Value → Option Addr → Hp → Prop
abbrev St := List (Option V)
abbrev VK := V → Hp → Prop
abbrev TE := St → Hp → VK → Prop
abbrev TT := St → Hp → (Bool → Hp → Prop) → Prop
abbrev TA := St → Hp → (List V → Hp → Prop) → Prop
structure Ends where
  nx : St → Hp → Prop
  rt : VK
  bk : St → Hp → Prop := fun _ _ => False
  ct : St → Hp → Prop := fun _ _ => False
abbrev TS := Ends → St → Hp → Prop
def EP (X : Cx) (pins : List (Addr × Obj)) (σ : St) (Q : VK) (u : Value) (s' : Shared) : Prop := ∃ v H', Inv X pins σ H' s' ∧ RelV v u ∧ Q v H'
def TP (X : Cx) (pins : List (Addr × Obj)) (σ : St) (Q : Bool → Hp → Prop) (b : Bool) (s' : Shared) : Prop := ∃ H', Inv X pins σ H' s' ∧ Q b H'
def AP (X : Cx) (pins : List (Addr × Obj)) (σ : St) (Q : List V → Hp → Prop) (us : List Value) (s' : Shared) : Prop := ∃ vs H', Inv X pins σ H' s' ∧ Vals vs us ∧ Q vs H'
def SP (X : Cx) (pins : List (Addr × Obj)) (D : Ends) (f : Flow) (s' : Shared) : Prop :=
  match f with
  | .next => ∃ σ' H', Inv X pins σ' H' s' ∧ D.nx σ' H'
  | .brk => ∃ σ' H', Inv X pins σ' H' s' ∧ D.bk σ' H'
  | .cont => ∃ σ' H', Inv X pins σ' H' s' ∧ D.ct σ' H'
  | .ret u => ∃ v σ' H', Inv X pins σ' H' s' ∧ RelV v u ∧ D.rt v H'
def PE (X : Cx) (e : Expr) (t : TE) : Prop :=
  ∀ (pins : List (Addr × Obj)) (s : Shared) (σ : St) (H : Hp) (Q : VK), Inv X pins σ H s → t σ H Q → wpAny (model X.prog X.w) X.A (eval e X.env) (EP X pins σ Q) X.xe s
def PT (X : Cx) (e : Expr) (t : TT) : Prop :=
  ∀ (pins : List (Addr × Obj)) (s : Shared) (σ : St) (H : Hp) (Q : Bool → Hp → Prop), Inv X pins σ H s → t σ H Q → wpAny (model X.prog X.w) X.A (isTrue e X.env (eval e X.env)) (TP X pins σ Q) X.xe s
def PW (X : Cx) (e : Expr) (t : TT) : Prop :=
  ∀ (whole : Sem Value) (pins : List (Addr × Obj)) (s : Shared) (σ : St) (H : Hp) (Q : Bool → Hp → Prop), Inv X pins σ H s → t σ H Q → wpAny (model X.prog X.w) X.A (isTrue e X.env whole) (TP X pins σ Q) X.xe s
theorem PW.pt {X : Cx} {e : Expr} {t : TT} (h : PW X e t) : PT X e t := h _
def PA (X : Cx) (es : List Expr) (t : TA) : Prop :=
  ∀ (pos : Pos) (pins : List (Addr × Obj)) (s : Shared) (σ : St) (H : Hp) (Q : List V → Hp → Prop), Inv X pins σ H s → t σ H Q → wpAny (model X.prog X.w) X.A (spliced (backTo pos (starEach es X.env))) (AP X pins σ Q) X.xe s
def PS (X : Cx) (st : Stmt) (t : TS) : Prop :=
  ∀ (pins : List (Addr × Obj)) (s : Shared) (σ : St) (H : Hp) (D : Ends), Inv X pins σ H s → t D σ H → wpAny (model X.prog X.w) X.A (exec st X.env) (SP X pins D) X.xe s
def PSs (X : Cx) (st : List Stmt) (t : TS) : Prop :=
  ∀ (pins : List (Addr × Obj)) (s : Shared) (σ : St) (H : Hp) (D : Ends), Inv X pins σ H s → t D σ H → wpAny (model X.prog X.w) X.A (execs st X.env) (SP X pins D) X.xe s
theorem thn {α : Type} {t : Sem α} {Q Q' : α → Shared → Prop} {M : Model} {A : Around} {E : Value → Shared → Prop} {s : Shared} (h : wpAny M A t Q E s) (hQ : ∀ a s, Q a s → Q' a s) : wpAny M A t Q' E s := wpAny_mono h hQ fun _ _ x => x
end L2
namespace L2
open PySem PySem.Spec PyProof.Rows
section
variable {X : Cx}
def tVar (i : Nat) : TE := fun σ H Q => ∃ v, σ[i]? = some (some v) ∧ Q v H
def tC (v : V) : TE := fun _ H Q => Q v H
theorem pe_var {i : Nat} {x : Str} {pos : Pos} (hN : X.N[i]? = some x) (hv : Vis X.env.scope x) (hd : (x == ("__debug__" : Str)) = false := by decide) (hcd : (x == ("__classdict__" : Str)) = false := by decide) : PE X (.Name x pos) (tVar i) := by
  intro pins s σ H Q I h
  obtain ⟨v, e, h⟩ := h
  obtain ⟨m, hn, hl⟩ := I.loc
  obtain ⟨u, r, l⟩ := hl i x v hN e hv
  have fin : EP X pins σ Q u s := ⟨v, H, I, r, h⟩
  rcases l with ⟨hk, hm⟩ | ⟨hk, c, hc, hcell⟩
  · exact wpAny_Name (wpAny_loadName_local I.ok.kind hk hn hm fin) hd
  · rcases hk with hk | hk
    · exact wpAny_Name (wpAny_loadName_cell I.ok.kind hk hc hcell fin) hd
    · exact wpAny_Name (wpAny_loadName_free I.ok.kind hk hc hcell fin hcd) hd
theorem pe_int {i j pos} : PE X (.Constant (.int i) j pos) (tC (.int i)) := fun _ _ _ H _ I h => wpAny_Constant_int ⟨.int i, H, I.tok _, ⟨_, rfl⟩, h⟩
theorem pe_bl {b j pos} : PE X (.Constant (.bool b) j pos) (tC (.bl b)) := fun _ _ _ H _ I h => Constant_bool ⟨.bl b, H, I, rfl, h⟩
theorem pe_non {j pos} : PE X (.Constant .none j pos) (tC .non) := fun _ _ _ H _ I h => Constant_none ⟨.non, H, I, rfl, h⟩
def Gl (X : Cx) (x : Str) : Prop := X.env.kindOf x = some .globalImplicit
theorem ld_glob {E : Value → Shared → Prop} {pins : List (Addr × Obj)} {s : Shared} {σ : St} {H : Hp} {x : Str} {u : Value} {pos : Pos} {Q : Value → Shared → Prop} (I : Inv X pins σ H s) (hg : Gl X x) (hm : X.mg x = some u) (h : Q u s)
    (hd : (x == ("__debug__" : Str)) = false := by decide) : wpAny (model X.prog X.w) X.A (eval (.Name x pos) X.env) Q E s :=
  Calls.Name_function_global I.ok.kind hg (Calls.loadGlobal_global (by rw [I.ok.glob]; exact I.mod.glob.keeps I.bk) hm h) hd
theorem ld_blt {E : Value → Shared → Prop} {pins : List (Addr × Obj)} {s : Shared} {σ : St} {H : Hp} {x : Str} {u : Value} {pos : Pos} {Q : Value → Shared → Prop} (I : Inv X pins σ H s) (hg : Gl X x) (hm : X.mg x = none) (hv : bootBuiltins x = some u) (h : Q u s)
    (hn : x ≠ "__name__" := by decide) (hd : (x == ("__debug__" : Str)) = false := by decide) : wpAny (model X.prog X.w) X.A (eval (.Name x pos) X.env) Q E s := by
  obtain ⟨mb, h1, h2⟩ := I.mod.blt
  exact Calls.Name_function_global I.ok.kind hg (Calls.loadGlobal_builtin (by rw [I.ok.glob]; exact I.mod.glob.keeps I.bk) hm (by rw [I.ok.blt]; exact h1.keeps I.bk) ((h2 x hn).trans hv) h) hd
theorem pe_glob {x : Str} {v : V} {u : Value} {pos : Pos} (hg : Gl X x) (hm : X.mg x = some u) (r : RelV v u) (hd : (x == ("__debug__" : Str)) = false := by decide) : PE X (.Name x pos) (tC v) :=
  fun _ _ _ H _ I h => ld_glob I hg hm ⟨v, H, I, r, h⟩ hd
variable {a b : Expr} {ta tb : TE} {pos : Pos}
def tB (t : TE) : TT := fun σ H Q => t σ H fun x H1 => ∃ c, x = .bl c ∧ Q c H1
theorem pt_val {e : Expr} {t : TE} (h : PE X e t) (he : ∀ whole, isTrue e X.env whole = (do let v ← whole; standAt e.pos; holding [v] (truthy v)) := by intro _; rfl) : PT X e (tB t) := by
  intro pins s σ H Q I hw
  refine isTrue_plain (thn (h pins s σ H _ I hw) fun v s1 ⟨x, H1, I1, r1, q1⟩ => ?_) (he _)
  obtain ⟨d, rfl, q⟩ := q1
  cases r1
  exact wpAny_truthy_bool ⟨H1, I1, q⟩
variable {tA tB' : TT} {rest : List Expr}
def tAnd (t u : TT) : TT := fun σ H Q => t σ H fun c H1 => if c = true then u σ H1 Q else Q false H1
def tNot (t : TT) : TT := fun σ H Q => t σ H fun c H1 => Q (!c) H1
theorem pw_and1 (ha : PT X a tA) : PW X (.BoolOp .And [a] pos) tA := by
  intro wh pins s σ H Q I h
  refine isTrue_and (thn (ha pins s σ H Q I h) fun c s1 e => ?_)
  cases c with
  | true => exact isTrue_and_nil e
  | false => exact e
theorem pw_and (ha : PT X a tA) (hb : PW X (.BoolOp .And (b :: rest) pos) tB') : PW X (.BoolOp .And (a :: b :: rest) pos) (tAnd tA tB') := by
  intro wh pins s σ H Q I h
  refine isTrue_and (thn (ha pins s σ H _ I h) fun c s1 ⟨H1, I1, q1⟩ => ?_)
  cases c with
  | true => exact hb wh pins s1 σ H1 Q I1 q1
  | false => exact ⟨H1, I1, q1⟩
theorem pt_not (ha : PT X a tA) : PT X (.UnaryOp .Not a pos) (tNot tA) := by
  intro pins s σ H Q I h
  exact isTrue_not (ha pins s σ H (fun c H1 => Q (!c) H1) I h)
def tAndV (ta tb : TE) : TE := fun σ H Q => ta σ H fun x H1 => ∃ c, x = .bl c ∧ if c = true then tb σ H1 Q else Q (.bl false) H1
def tOrV (ta tb : TE) : TE := fun σ H Q => ta σ H fun x H1 => ∃ c, x = .bl c ∧ if c = true then Q (.bl true) H1 else tb σ H1 Q
theorem pe_one {op} {t : TE} (h : PE X a t) : PE X (.BoolOp op [a] pos) t := fun pins s σ H Q I hw => BoolOp_one (h pins s σ H Q I hw)
theorem pe_and (ha : PE X a ta) (hb : PE X (.BoolOp .And (b :: rest) pos) tb) : PE X (.BoolOp .And (a :: b :: rest) pos) (tAndV ta tb) := by
  intro pins s σ H Q I h
  refine BoolOp_and (thn (ha pins s σ H _ I h) fun v s1 ⟨x, H1, I1, r1, q1⟩ => ?_)
  obtain ⟨c, rfl, q1⟩ := q1
  cases r1
  refine wpAny_truthy_bool ?_
  cases c with
  | true => exact hb pins s1 σ H1 Q I1 q1
  | false => exact ⟨.bl false, H1, I1, rfl, q1⟩
theorem pe_or (ha : PE X a ta) (hb : PE X (.BoolOp .Or (b :: rest) pos) tb) : PE X (.BoolOp .Or (a :: b :: rest) pos) (tOrV ta tb) := by
  intro pins s σ H Q I h
  refine BoolOp_or (thn (ha pins s σ H _ I h) fun v s1 ⟨x, H1, I1, r1, q1⟩ => ?_)
  obtain ⟨c, rfl, q1⟩ := q1
  cases r1
  refine wpAny_truthy_bool ?_
  cases c with
  | false => exact hb pins s1 σ H1 Q I1 q1
  | true => exact ⟨.bl true, H1, I1, rfl, q1⟩
def tIf (t : TT) (ta tb : TE) : TE := fun σ H Q => t σ H fun c H1 => if c = true then ta σ H1 Q else tb σ H1 Q
theorem pe_ifExp {c : Expr} (hc : PT X c tA) (ha : PE X a ta) (hb : PE X b tb) : PE X (.IfExp c a b pos) (tIf tA ta tb) := by
  intro pins s σ H Q I h
  refine wpAny_IfExp (thn (hc pins s σ H _ I h) fun d s1 ⟨H1, I1, q1⟩ => ?_)
  cases d with
  | true => exact ha pins s1 σ H1 Q I1 q1
  | false => exact hb pins s1 σ H1 Q I1 q1
end
end L2
namespace L2
open PySem PySem.Spec PyProof.Rows
def SqL (K : PySem.W.Frag) (H : Hp) (a : Addr) (xs : List V) : Prop :=
  Rd H a (.lst xs) ∨
    ∃ (o : Obj) (its : Array Value) (n : Nat), K.lookup a = some o ∧ o.cls = .type "list" ∧ o.dict = none ∧ o.data = .seq its n ∧ its.size ≤ sizeLine ∧ Vals xs its.toList
def SqT (K : PySem.W.Frag) (H : Hp) (a : Addr) (xs : List V) : Prop :=
  Rd H a (.tup xs) ∨
    ∃ (o : Obj) (its : Array Value) (n : Nat), K.lookup a = some o ∧ o.cls = .type "tuple" ∧ o.data = .seq its n ∧ its.size ≤ sizeLine ∧ Vals xs its.toList
def absV : Value → Option V
  | .none => some .non
  | .bool b => some (.bl b)
  | .int i _ => some (.int i)
  | .str x _ => some (.str x)
  | .bytes b _ => some (.byt b)
  | .float b _ => some (.flt b)
  | .ref a => some (.ref a)
  | .type n => some (.ty n)
  | _ => none
theorem RelV.abs {x : V} {u : Value} (r : RelV x u) : absV u = some x := by
  cases x with
  | non => cases r; rfl
  | bl _ => cases r; rfl
  | int _ => obtain ⟨t, rfl⟩ := r; rfl
  | str _ => obtain ⟨t, rfl⟩ := r; rfl
  | byt _ => obtain ⟨t, rfl⟩ := r; rfl
  | flt _ => obtain ⟨t, rfl⟩ := r; rfl
  | ref _ => cases r; rfl
  | ty _ => cases r; rfl
theorem RelV.inj {x y : V} {u : Value} (r : RelV x u) (q : RelV y u) : x = y := Option.some.inj (r.abs.symm.trans q.abs)
theorem Vals.inj : ∀ {xs ys : List V} {us : List Value}, Vals xs us → Vals ys us → xs = ys
  | _, _, _, .nil, .nil => rfl
  | _, _, _, .cons r t, .cons r' t' => by rw [r.inj r', Vals.inj t t']
section
variable {X : Cx} {pins : List (Addr × Obj)} {σ : St} {H : Hp} {s : Shared} {a : Addr} {xs ys : List V}
theorem SqL.of {K : PySem.W.Frag} (h : H a = some (.lst xs)) : SqL K H a xs := .inl (.inl h)
theorem SqT.of {K : PySem.W.Frag} (h : H a = some (.tup xs)) : SqT K H a xs := .inl (.inl h)
theorem Inv.list (I : Inv X pins σ H s) (h : SqL X.K H a xs) : ∃ its : List Value, Vals xs its ∧ PlainL s.heap a its.toArray ∧ xs.length ≤ sizeLine := by
  rcases h with h | ⟨o, its, n, hk, hc, hd, hs, hz, r⟩
  · obtain ⟨z, its, n, r, e⟩ := h.ok I.hok
    exact ⟨its, r, ⟨_, n, e, rfl, rfl, rfl⟩, z⟩
  · refine ⟨its.toList, r, ⟨o, n, I.kIn a o hk, hc, hd, by simpa using hs⟩, ?_⟩
    have e := r.length
    simp only [Array.length_toList] at e
    trivial
theorem Inv.tuple (I : Inv X pins σ H s) (h : SqT X.K H a xs) : ∃ its : List Value, Vals xs its ∧ IsTup s.heap a its.toArray ∧ xs.length ≤ sizeLine := by
  rcases h with h | ⟨o, its, n, hk, hc, hs, hz, r⟩
  · obtain ⟨z, its, r, p⟩ := h.ok I.hok
    exact ⟨its, r, p, z⟩
  · refine ⟨its.toList, r, ⟨o, I.kIn a o hk, hc, n, by simpa using hs⟩, ?_⟩
    have e := r.length
    simp only [Array.length_toList] at e
    trivial
theorem Inv.list_inj (I : Inv X pins σ H s) (h : SqL X.K H a xs) (h' : SqL X.K H a ys) : xs = ys := by
  obtain ⟨its, r, ⟨o, n, e, _, _, d⟩, _⟩ := I.list h
  obtain ⟨its', r', ⟨o', n', e', _, _, d'⟩, _⟩ := I.list h'
  rw [e] at e'; cases e'
  rw [d] at d'
  injection d' with d1 _
  have : its = its' := by simpa using congrArg Array.toList d1
  subst this
  exact r.inj r'
theorem Inv.tuple_inj (I : Inv X pins σ H s) (h : SqT X.K H a xs) (h' : SqT X.K H a ys) : xs = ys := by
  obtain ⟨its, r, ⟨o, e, _, n, d⟩, _⟩ := I.tuple h
  obtain ⟨its', r', ⟨o', e', _, n', d'⟩, _⟩ := I.tuple h'
  rw [e] at e'; cases e'
  rw [d] at d'
  injection d' with d1 _
  have : its = its' := by simpa using congrArg Array.toList d1
  subst this
  exact r.inj r'
end
abbrev Cx.wish (X : Cx) (E : Value → Shared → Prop) : Cx := { X with xe := E }
abbrev Cx.nox (X : Cx) : Cx := X.wish fun _ _ => False
theorem Cx.Ok.wish {X : Cx} (ok : X.Ok) (E : Value → Shared → Prop) : (X.wish E).Ok :=
  ⟨ok.mod, ok.kind, ok.glob, ok.blt, ok.above, ok.inj, ok.has, ok.cab, ok.hd, ok.frames, ok.stk, ok.exf, ok.bs, ok.bsz, ok.noex, ok.exfs, ok.funs, ok.frf⟩
theorem Cx.Ok.unwish {X : Cx} {E : Value → Shared → Prop} (ok : (X.wish E).Ok) : X.Ok :=
  ⟨ok.mod, ok.kind, ok.glob, ok.blt, ok.above, ok.inj, ok.has, ok.cab, ok.hd, ok.frames, ok.stk, ok.exf, ok.bs, ok.bsz, ok.noex, ok.exfs, ok.funs, ok.frf⟩
section
variable {X : Cx} {pins : List (Addr × Obj)} {σ : St} {H : Hp} {s : Shared} {E : Value → Shared → Prop}
theorem Inv.wish (I : Inv X pins σ H s) (E : Value → Shared → Prop) : Inv (X.wish E) pins σ H s := ⟨I.ok.wish E, I.os, I.bare, I.base, I.loc, I.cell, I.free, I.freeC, I.pin, I.hok, I.len⟩
theorem Inv.unwish (I : Inv (X.wish E) pins σ H s) : Inv X pins σ H s := ⟨I.ok.unwish, I.os, I.bare, I.base, I.loc, I.cell, I.free, I.freeC, I.pin, I.hok, I.len⟩
theorem SP.unwish {D : Ends} {f : Flow} {s' : Shared} (h : SP (X.wish E) pins D f s') : SP X pins D f s' := by
  cases f with
  | next => obtain ⟨σ', H', I, q⟩ := h; exact ⟨σ', H', I.unwish, q⟩
  | brk => obtain ⟨σ', H', I, q⟩ := h; exact ⟨σ', H', I.unwish, q⟩
  | cont => obtain ⟨σ', H', I, q⟩ := h; exact ⟨σ', H', I.unwish, q⟩
  | ret u => obtain ⟨v, σ', H', I, r, q⟩ := h; exact ⟨v, σ', H', I.unwish, r, q⟩
theorem PSs.nox {st : List Stmt} {t : TS} (h : PSs X.nox st t) : PSs X st t := fun pins s σ H D I hw =>
  wpAny_mono (h pins s σ H D (I.wish _) hw) (fun _ _ q => q.unwish) fun _ _ z => False.elim z
end
section
variable {X : Cx} {st : Stmt} {rest : List Stmt} {t u : TS} {e : Expr} {te : TE} {pos : Pos}
def tNext : TS := fun D σ H => D.nx σ H
def tSeq (t u : TS) : TS := fun D σ H => t { D with nx := u D } σ H
theorem pss_nil : PSs X [] tNext := fun _ _ σ H _ I h => wpAny_execs_nil ⟨σ, H, I, h⟩
theorem pss_cons (h1 : PS X st t) (h2 : PSs X rest u) : PSs X (st :: rest) (tSeq t u) := by
  intro pins s σ H D I h
  refine wpAny_execs_cons (thn (h1 pins s σ H { D with nx := u D } I h) fun f s1 q => ?_)
  cases f with
  | next =>
    obtain ⟨σ', H', I', q⟩ := q
    exact h2 pins s1 σ' H' D I' q
  | ret v => exact q
  | brk => exact q
  | cont => exact q
theorem pss_one (h1 : PS X st t) : PSs X [st] t := by
  intro pins s σ H D I h
  refine wpAny_execs_cons (thn (h1 pins s σ H D I h) fun f s1 q => ?_)
  cases f with
  | next => exact wpAny_execs_nil q
  | ret v => exact q
  | brk => exact q
  | cont => exact q
theorem Inv.quiet {pins : List (Addr × Obj)} {σ : St} {H : Hp} {s : Shared} (I : Inv X pins σ H s) : interactive X.env = false := by simp [interactive, I.ok.kind]
def tDrop (te : TE) : TS := fun D σ H => te σ H fun _ H1 => D.nx σ H1
theorem ps_expr (he : PE X e te) (hs : swapsWith e none pos.line X.env = pure false := by rfl) : PS X (.Expr e pos) (tDrop te) := by
  intro pins s σ H D I h
  exact wpAny_Expr_any (thn (he pins s σ H _ I h) fun v s1 ⟨x, H1, I1, r1, q1⟩ => ⟨σ, H1, I1, q1⟩) I.quiet hs
def tRet (te : TE) : TS := fun D σ H => te σ H D.rt
theorem ps_ret (he : PE X e te) : PS X (.Return (some e) pos) (tRet te) := by
  intro pins s σ H D I h
  exact wpAny_Return_some (thn (he pins s σ H _ I h) fun v s1 ⟨x, H1, I1, r1, q1⟩ => ⟨x, σ, H1, I1, r1, q1⟩)
def tIfS (c : TT) (t u : TS) : TS := fun D σ H => c σ H fun b H1 => if b = true then t D σ H1 else u D σ H1
theorem ps_if {c : Expr} {a b : List Stmt} {tc : TT} (hc : PT X c tc) (ha : PSs X a t) (hb : PSs X b u) : PS X (.If c a b pos) (tIfS tc t u) := by
  intro pins s σ H D I h
  refine wpAny_If (thn (hc pins s σ H _ I h) fun d s1 ⟨H1, I1, q1⟩ => ?_)
  cases d with
  | true => exact ha pins s1 σ H1 D I1 q1
  | false => exact hb pins s1 σ H1 D I1 q1
end
abbrev TG := V → St → Hp → (St → Hp → Prop) → Prop
abbrev TGs := List V → St → Hp → (St → Hp → Prop) → Prop
def PG (X : Cx) (target : Expr) (t : TG) : Prop :=
  ∀ (pins : List (Addr × Obj)) (s : Shared) (σ : St) (H : Hp) (v : V) (u : Value) (Q : St → Hp → Prop), Inv X pins σ H s → RelV v u → t v σ H Q →
    wpAny (model X.prog X.w) X.A (assign target X.env u) (fun _ s' => ∃ σ' H', Inv X pins σ' H' s' ∧ Q σ' H') X.xe s
def PGs (X : Cx) (ts : List Expr) (t : TGs) : Prop :=
  ∀ (pins : List (Addr × Obj)) (s : Shared) (σ : St) (H : Hp) (vs : List V) (us : List Value) (Q : St → Hp → Prop), Inv X pins σ H s → Vals vs us → t vs σ H Q →
    wpAny (model X.prog X.w) X.A (assignInOrder ((assignEach ts X.env).map (·.2)) us) (fun _ s' => ∃ σ' H', Inv X pins σ' H' s' ∧ Q σ' H') X.xe s
abbrev TIp := V → V → Hp → VK → Prop
def PIp (X : Cx) (op : Operator) (t : TIp) : Prop :=
  ∀ (pins : List (Addr × Obj)) (s : Shared) (σ : St) (H : Hp) (x y : V) (v u : Value) (Q : VK), Inv X pins σ H s → RelV x v → RelV y u → t x y H Q →
    wpAny (model X.prog X.w) X.A (inplaceOp op v u) (EP X pins σ Q) X.xe s
section
variable {X : Cx} {pos : Pos}
def gName (i : Nat) : TG := fun v σ H Q => Q (σ.set i (some v)) H
theorem pg_name {i : Nat} {x : Str} (hN : X.N.Nodup) (hi : X.N[i]? = some x) (hx : Loc X.env.scope x) (hf : X.fn x = true ∨ X.env.scope.names.lookup x = some .local := by first | exact .inl rfl | exact .inr rfl | assumption) : PG X (.Name x pos) (gName i) := by
  intro pins s σ H v u Q I r h
  exact wpAny_assign_Name (store_ok I hN hi hx r (fun s' I' => ⟨_, H, I', h⟩) hf)
def gNil : TGs := fun vs σ H Q => vs = [] ∧ Q σ H
def gCons (t : TG) (u : TGs) : TGs := fun vs σ H Q => ∃ v r, vs = v :: r ∧ t v σ H fun σ' H' => u r σ' H' Q
theorem pgs_nil : PGs X [] gNil := by
  intro pins s σ H vs us Q I r h
  obtain ⟨e, h⟩ := h
  subst e
  cases r
  exact assignInOrder_nil ⟨σ, H, I, h⟩
theorem pgs_cons {e : Expr} {es : List Expr} {t : TG} {u : TGs} (h1 : PG X e t) (h2 : PGs X es u)
    (hs : (assignEach (e :: es) X.env).map (·.2) = assign e X.env :: (assignEach es X.env).map (·.2) := by rfl) : PGs X (e :: es) (gCons t u) := by
  intro pins s σ H vs us Q I r h
  obtain ⟨v, vr, e1, h⟩ := h
  subst e1
  cases r with
  | cons r rr =>
    rw [hs]
    refine assignInOrder_cons (thn (h1 pins s σ H _ _ _ I r h) fun _ s1 ⟨σ1, H1, I1, q1⟩ => ?_)
    exact h2 pins s1 σ1 H1 _ _ Q I1 rr q1
def gTup (K : PySem.W.Frag) (n : Nat) (t : TGs) : TG := fun v σ H Q => ∃ a xs, v = .ref a ∧ SqT K H a xs ∧ xs.length = n ∧ t xs σ H Q
theorem pg_tup {es : List Expr} {k : Nat} {t : TGs} {n : Nat} (hc : X.calm = true) (h : PGs X es t)
    (hn : (assignEach es X.env).length = n := by rfl) (hst : (assignEach es X.env).findIdx? (·.1) = none := by rfl) : PG X (.Tuple es k pos) (gTup X.K n t) := by
  intro pins s σ H v u Q I r hw
  obtain ⟨a, xs, e1, hq, hl, hw⟩ := hw
  subst e1
  cases r
  obtain ⟨its, rv, ht, hz⟩ := I.tuple hq
  refine assign_Tuple_tuple (I.ok.hd hc) ht (by simp [hn, ← hl, rv.length]) hst fun h' hx => ?_
  have I1 : Inv X pins σ H { s with heap := h' } := I.kept (t' := s.toks) fun b o e => hx b o (Nat.ne_of_lt (Heap.lt_size e)) e
  exact h pins _ σ H xs _ Q I1 (by simpa using rv) hw
def tAsg (te : TE) (g : TG) : TS := fun D σ H => te σ H fun x H1 => g x σ H1 D.nx
theorem ps_set {i : Nat} {x : Str} {e : Expr} {te : TE} {pos' : Pos} (hN : X.N.Nodup) (hi : X.N[i]? = some x) (hx : Loc X.env.scope x) (he : PE X e te) (hs : swapsWith e (some (.Name x pos')) pos.line X.env = pure false := by rfl) (hf : X.fn x = true ∨ X.env.scope.names.lookup x = some .local := by first | exact .inl rfl | exact .inr rfl | assumption) :
    PS X (.Assign [.Name x pos'] e pos) (tAsg te (gName i)) := by
  intro pins s σ H D I h
  refine wpAny_Assign_Name (thn (he pins s σ H _ I h) fun v s1 ⟨y, H1, I1, r1, q1⟩ => ?_) hs
  exact store_ok I1 hN hi hx r1 (fun s2 I2 => ⟨_, H1, I2, q1⟩) hf
def tAug (i : Nat) (te : TE) (ti : TIp) : TS := fun D σ H => ∃ x, σ[i]? = some (some x) ∧ te σ H fun y H1 => ti x y H1 fun z H2 => D.nx (σ.set i (some z)) H2
theorem ps_aug {i : Nat} {x : Str} {e : Expr} {te : TE} {op : Operator} {ti : TIp} {pos' : Pos} (hN : X.N.Nodup) (hi : X.N[i]? = some x) (hx : Loc X.env.scope x) (he : PE X e te) (ho : PIp X op ti) (hf : X.fn x = true ∨ X.env.scope.names.lookup x = some .local := by first | exact .inl rfl | exact .inr rfl | assumption) :
    PS X (.AugAssign (.Name x pos') op e pos) (tAug i te ti) := by
  intro pins s σ H D I h
  obtain ⟨v, e1, h⟩ := h
  obtain ⟨m, hn, hl⟩ := I.loc
  have vis : Vis X.env.scope x := by rcases hx with k | k; exact .inl k; exact .inr (.inl k)
  obtain ⟨u, r, l⟩ := hl i x v hi e1 vis
  refine wpAny_AugAssign_Name ?_
  have go : wpAny (model X.prog X.w) X.A (eval e X.env) (fun w s₂ => wpAny (model X.prog X.w) X.A (inplaceOp op u w) (fun r s₃ => wpAny (model X.prog X.w) X.A (storeName X.env x r) (fun _ => SP X pins D .next) X.xe s₃) X.xe s₂) X.xe s := by
    refine thn (he pins s σ H _ I h) fun w s1 ⟨y, H1, I1, r1, q1⟩ => ?_
    refine thn (ho pins s1 σ H1 v y u w _ I1 r r1 q1) fun z s2 ⟨zv, H2, I2, r2, q2⟩ => ?_
    exact store_ok I2 hN hi hx r2 (fun s3 I3 => ⟨_, H2, I3, q2⟩) hf
  rcases l with ⟨hk, hm⟩ | ⟨hk, c, hc, hcell⟩
  · exact wpAny_loadName_local I.ok.kind hk hn hm go
  · rcases hk with hk | hk
    · exact wpAny_loadName_cell I.ok.kind hk hc hcell go
    · rcases hx with k | k
      · have : X.env.scope.names.lookup x = some .free := hk
        rw [k] at this; cases this
      · have : X.env.scope.names.lookup x = some .free := hk
        rw [k] at this; cases this
def ipI (f : Int → Int → Int) : TIp := fun x y H Q => ∃ i j, x = .int i ∧ y = .int j ∧ Q (.int (f i j)) H
theorem ip_add : PIp X .Add (ipI fun i j => i + j) := by
  intro pins s σ H x y v u Q I r1 r2 h
  obtain ⟨i, j, e1, e2, q⟩ := h
  subst e1; subst e2
  obtain ⟨t, rfl⟩ := r1
  obtain ⟨t', rfl⟩ := r2
  exact iadd_int ⟨.int _, H, I.tok _, ⟨_, rfl⟩, q⟩
theorem ip_sub : PIp X .Sub (ipI fun i j => i - j) := by
  intro pins s σ H x y v u Q I r1 r2 h
  obtain ⟨i, j, e1, e2, q⟩ := h
  subst e1; subst e2
  obtain ⟨t, rfl⟩ := r1
  obtain ⟨t', rfl⟩ := r2
  exact isub_int ⟨.int _, H, I.tok _, ⟨_, rfl⟩, q⟩
end
section
variable {X : Cx} {pos : Pos}
end
structure It where
  go : Nat → Hp → Prop
  yld : Nat → Hp → V → Hp → Prop
  stop : Nat → Hp → Prop
def FpOk (X : Cx) (pins : List (Addr × Obj)) (H : Hp) (b : Addr) : Prop :=
  H b = none ∧ b ≠ X.env.locals ∧ b ∉ X.fs ∧ (b ∈ X.ex ∨ X.s_0.heap.objs.size ≤ b) ∧ (∀ x c, X.env.cells.lookup x = some c → c ≠ b) ∧ ∀ p ∈ X.pn ++ pins, p.1 ≠ b
theorem Inv.fpOk {X : Cx} {pins : List (Addr × Obj)} {σ : St} {H H' : Hp} {s : Shared} {b : Addr} (I : Inv X pins σ H s) (hb : s.heap.objs.size ≤ b) (hn : H' b = none) : FpOk X pins H' b := by
  refine ⟨hn, Nat.ne_of_gt (Nat.lt_of_lt_of_le I.lt hb), I.nofs hb, .inr (Nat.le_trans I.sz hb), fun x c e z => ?_, fun p hp z => ?_⟩
  · obtain ⟨v, q⟩ := I.cell x c e
    exact absurd (Nat.lt_of_lt_of_le q.lt (by rw [z]; exact hb)) (Nat.lt_irrefl _)
  · exact absurd (Nat.lt_of_lt_of_le (Heap.lt_size (I.pin p hp).1) (by rw [z]; exact hb)) (Nat.lt_irrefl _)
structure Turn (P : Program) (w : World) (K : PySem.W.Frag) (tg : Expr) (J : It) (fp : List Addr) (it : Addr) (tn : Nat → Heap → Prop) : Prop where
  mem : it ∈ fp
  obj : ∀ i h, tn i h → ∀ b ∈ fp, ∃ o, h.get? b = some o ∧ ∀ v, o.data ≠ .cell v
  keep : ∀ i h h', tn i h → (∀ b ∈ fp, ∀ o, h.get? b = some o → h'.get? b = some o) → tn i h'
  item : ∀ (X : Cx), X.prog = P → X.w = w → X.K = K → X.calm = true → ∀ (i : Nat) (pins : List (Addr × Obj)) (s : Shared) (σ : St) (H : Hp) (E : Value → Shared → Prop), Inv X pins σ H s → (∀ b ∈ fp, FpOk X pins H b) → tn i s.heap → J.go i H →
    wpAny (model P w) X.A (pyNext (.ref it)) (fun r s1 => ∃ u, r = some u ∧
      wpAny (model P w) X.A (letOwnedTupleGo tg (.ref it) u) (fun _ s2 => ∃ x H', Inv X pins σ H' s2 ∧ RelV x u ∧ J.yld i H x H' ∧ tn (i + 1) s2.heap ∧ ∀ b ∈ fp, H' b = none) E s1) E s
  done : ∀ (X : Cx), X.prog = P → X.w = w → X.K = K → X.calm = true → ∀ (i : Nat) (pins : List (Addr × Obj)) (s : Shared) (σ : St) (H : Hp) (E : Value → Shared → Prop), Inv X pins σ H s → (∀ b ∈ fp, FpOk X pins H b) → tn i s.heap → J.stop i H →
    wpAny (model P w) X.A (pyNext (.ref it)) (fun r s1 => r = none ∧ Inv X pins σ H s1) E s
  self : ∀ (A : Around) (i : Nat) (s : Shared) (Q : Value → Shared → Prop) (E : Value → Shared → Prop), tn i s.heap → Q (.ref it) s → wpAny (model P w) A (pyIter (.ref it)) Q E s
abbrev TI := St → Hp → (It → Hp → Prop) → Prop
def PIE (X : Cx) (pins : List (Addr × Obj)) (σ : St) (tg : Expr) (R : It → Hp → Prop) (itv : Value) (s2 : Shared) : Prop :=
  ∃ (it : Addr) (fp : List Addr) (tn : Nat → Heap → Prop) (J : It) (H' : Hp), itv = .ref it ∧ Inv X pins σ H' s2 ∧ Turn X.prog X.w X.K tg J fp it tn ∧ tn 0 s2.heap ∧ (∀ b ∈ fp, FpOk X pins H' b) ∧ R J H'
def PI (X : Cx) (tg iter : Expr) (wi : TI) : Prop :=
  ∀ (pins : List (Addr × Obj)) (s : Shared) (σ : St) (H : Hp) (R : It → Hp → Prop), Inv X pins σ H s → wi σ H R →
    wpAny (model X.prog X.w) X.A (eval iter X.env) (fun v s1 => wpAny (model X.prog X.w) X.A (pyIter v) (PIE X pins σ tg R) X.xe s1) X.xe s
theorem go_of {M : Model} {A : Around} {E : Value → Shared → Prop} {s : Shared} {tg : Expr} {it : Addr} {u : Value} {o : Obj} {n : String} {vs : Array Value} {Q : Unit → Shared → Prop} (ho : s.heap.get? it = some o) (hc : o.cls = .type n) (hd : o.data = .fields vs)
    (hn : ["enumerate", "zip", "dict_itemiterator", "dict_reverseitemiterator", "odict_iterator", "itertools.zip_longest", "itertools.pairwise"].contains n = false) (hQ : Q () s) : wpAny M A (letOwnedTupleGo tg (.ref it) u) Q E s := by
  unfold letOwnedTupleGo
  cases tg <;> first
    | exact wpAny_pure hQ
    | (cases u <;> first
        | exact wpAny_pure hQ
        | (refine wpAny_bind (wpAny_load ho ?_)
           rw [hc, hd]
           show wpAny M A (if (["enumerate", "zip", "dict_itemiterator", "dict_reverseitemiterator", "odict_iterator", "itertools.zip_longest", "itertools.pairwise"].contains n && vs[0]? == some (rawInt _)) = true then _ else _) Q E s
           rw [if_neg (by intro h; rw [hn, Bool.false_and] at h; cases h)]
           exact wpAny_pure hQ))
def Itl (K : PySem.W.Frag) (a : Addr) : It :=
  ⟨fun i H => ∃ xs x, SqL K H a xs ∧ xs[i]? = some x, fun i H x H' => H' = H ∧ ∀ xs, SqL K H a xs → xs[i]? = some x, fun i H => ∃ xs, SqL K H a xs ∧ xs.length ≤ i⟩
def Itt (K : PySem.W.Frag) (a : Addr) : It :=
  ⟨fun i H => ∃ xs x, SqT K H a xs ∧ xs[i]? = some x, fun i H x H' => H' = H ∧ ∀ xs, SqT K H a xs → xs[i]? = some x, fun i H => ∃ xs, SqT K H a xs ∧ xs.length ≤ i⟩
def Itr (lo : Int) (n : Nat) : It := ⟨fun i _ => i < n, fun i H x H' => H' = H ∧ x = .int (lo + i), fun i _ => n ≤ i⟩
theorem turn_list {P : Program} {w : World} {K : PySem.W.Frag} {tg : Expr} (a it : Addr) : Turn P w K tg (Itl K a) [it] it (fun i h => h.IsListIter it a i) where
  mem := by simp
  obj := fun i h st b hb => by
    have e : b = it := by simpa using hb
    subst e
    obtain ⟨o, e, c, d⟩ := st
    exact ⟨o, e, fun v z => by rw [d] at z; cases z⟩
  keep := fun i h h' st k => st.at fun o e => k it (by simp) o e
  item := by
    intro X hP hw hK hc i pins s σ H E I hf st hg
    subst hP hw hK
    obtain ⟨xs, x, hq, hx⟩ := hg
    obtain ⟨its, rv, p, hz⟩ := I.list hq
    obtain ⟨u, hu, ru⟩ := rv.get hx
    obtain ⟨f0, f1, f2, f3, f4, f5⟩ := hf it (by simp)
    refine wpAny_pyNext_list_item st p.isList (x := u) (by simpa using hu) fun h' st' sb => ?_
    have I1 : Inv X pins σ H { s with heap := h' } := I.turned (t' := s.toks) (fun b o hb e => (sb.2 b hb).trans e) f0 f1 f3 f4 f5
    obtain ⟨o, e, c, d⟩ := id st'
    exact ⟨u, rfl, go_of (s := { s with heap := h' }) e c d (by decide) ⟨x, H, I1, ru, ⟨rfl, fun ys hy => by rw [I.list_inj hy hq]; exact hx⟩, st', fun b hb => (hf b hb).1⟩⟩
  done := by
    intro X hP hw hK hc i pins s σ H E I hf st hg
    subst hP hw hK
    obtain ⟨xs, hq, hx⟩ := hg
    obtain ⟨its, rv, p, hz⟩ := I.list hq
    obtain ⟨f0, f1, f2, f3, f4, f5⟩ := hf it (by simp)
    have hl := rv.length
    exact wpAny_pyNext_list_end (I.ok.hd hc) st p.isList (by simp; trivial) fun h' eb => ⟨rfl, I.turned (t' := s.toks) (fun b o hb e => eb b o hb e) f0 f1 f3 f4 f5⟩
  self := fun _ _ _ _ _ st h => wpAny_pyIter_listiter st h
theorem turn_tuple {P : Program} {w : World} {K : PySem.W.Frag} {tg : Expr} (a it : Addr) : Turn P w K tg (Itt K a) [it] it (fun i h => h.IsTupleIter it a i) where
  mem := by simp
  obj := fun i h st b hb => by
    have e : b = it := by simpa using hb
    subst e
    obtain ⟨o, e, c, d⟩ := st
    exact ⟨o, e, fun v z => by rw [d] at z; cases z⟩
  keep := fun i h h' st k => st.at fun o e => k it (by simp) o e
  item := by
    intro X hP hw hK hc i pins s σ H E I hf st hg
    subst hP hw hK
    obtain ⟨xs, x, hq, hx⟩ := hg
    obtain ⟨its, rv, p, hz⟩ := I.tuple hq
    obtain ⟨u, hu, ru⟩ := rv.get hx
    obtain ⟨f0, f1, f2, f3, f4, f5⟩ := hf it (by simp)
    refine wpAny_pyNext_tuple_item st (show s.heap.IsTuple a its.toArray from p) (x := u) (by simpa using hu) fun h' st' sb => ?_
    have I1 : Inv X pins σ H { s with heap := h' } := I.turned (t' := s.toks) (fun b o hb e => (sb.2 b hb).trans e) f0 f1 f3 f4 f5
    obtain ⟨o, e, c, d⟩ := id st'
    exact ⟨u, rfl, go_of (s := { s with heap := h' }) e c d (by decide) ⟨x, H, I1, ru, ⟨rfl, fun ys hy => by rw [I.tuple_inj hy hq]; exact hx⟩, st', fun b hb => (hf b hb).1⟩⟩
  done := by
    intro X hP hw hK hc i pins s σ H E I hf st hg
    subst hP hw hK
    obtain ⟨xs, hq, hx⟩ := hg
    obtain ⟨its, rv, p, hz⟩ := I.tuple hq
    obtain ⟨f0, f1, f2, f3, f4, f5⟩ := hf it (by simp)
    have hl := rv.length
    exact wpAny_pyNext_tuple_end (I.ok.hd hc) st (show s.heap.IsTuple a its.toArray from p) (by simp; trivial) fun h' eb => ⟨rfl, I.turned (t' := s.toks) (fun b o hb e => eb b o hb e) f0 f1 f3 f4 f5⟩
  self := fun _ _ _ _ _ st h => wpAny_pyIter_tupleiter st h
theorem turn_range {P : Program} {w : World} {K : PySem.W.Frag} {tg : Expr} (it : Addr) (lo : Int) (n : Nat) : Turn P w K tg (Itr lo n) [it] it (fun i h => IsRangeIter h it (lo + (i : Nat) * 1) ((n : Int) - (i : Nat)) 1) where
  mem := by simp
  obj := fun i h st b hb => by
    have e : b = it := by simpa using hb
    subst e
    exact ⟨_, st, fun v z => by
      have z' : Data.fields _ = Data.cell v := z
      cases z'⟩
  keep := fun i h h' st k => k it (by simp) _ st
  item := by
    intro X hP hw hK hc i pins s σ H E I hf st hg
    subst hP hw hK
    obtain ⟨f0, f1, f2, f3, f4, f5⟩ := hf it (by simp)
    have W := Walks.range (prog := X.prog) (w := X.w) (I.ok.hd hc) it lo 1 n
    refine W.item i s _ _ hg st fun v h' tk hv st' kk => ?_
    obtain ⟨t, rfl⟩ := hv
    have I1 : Inv X pins σ H { s with heap := h', toks := tk } := I.turned (fun b o hb e => kk b o (by simpa using hb) e) f0 f1 f3 f4 f5
    refine ⟨_, rfl, go_of (s := { s with heap := h', toks := tk }) (n := "range_iterator") st' rfl rfl (by decide) ⟨.int (lo + i), H, I1, ⟨t, ?_⟩, ⟨rfl, rfl⟩, st', fun b hb => (hf b hb).1⟩⟩
    rw [Int.mul_one]
  done := by
    intro X hP hw hK hc i pins s σ H E I hf st hg
    subst hP hw hK
    obtain ⟨f0, f1, f2, f3, f4, f5⟩ := hf it (by simp)
    exact wpAny_pyNext_range_end (I.ok.hd hc) st (by have : n ≤ i := hg; trivial) fun h' eb => ⟨rfl, I.turned (t' := s.toks) (fun b o hb e => eb b o hb e) f0 f1 f3 f4 f5⟩
  self := fun _ _ _ _ _ st h => wpAny_pyIter_rangeiter st h
end L2
namespace L2
open PySem PySem.Spec PyProof.Rows
section
variable {X : Cx} {tg : Expr}
def iList (K : PySem.W.Frag) (tl : TE) : TI := fun σ H R => tl σ H fun x H1 => ∃ a, x = .ref a ∧ (∃ xs, SqL K H1 a xs) ∧ R (Itl K a) H1
def iTup (K : PySem.W.Frag) (tl : TE) : TI := fun σ H R => tl σ H fun x H1 => ∃ a, x = .ref a ∧ (∃ xs, SqT K H1 a xs) ∧ R (Itt K a) H1
theorem pi_list {l : Expr} {tl : TE} (hl : PE X l tl) : PI X tg l (iList X.K tl) := by
  intro pins s σ H R I h
  refine thn (hl pins s σ H _ I h) fun v s1 ⟨x, H1, I1, r1, q1⟩ => ?_
  obtain ⟨a, e, ⟨xs, hq⟩, q⟩ := q1
  subst e
  cases r1
  obtain ⟨its, rv, p, hz⟩ := I1.list hq
  refine wpAny_pyIter_list p.isList ?_
  refine ⟨s1.heap.objs.size, [s1.heap.objs.size], _, _, H1, rfl, I1.kept (t' := s1.toks) fun b o e => Heap.get?_push_of_some _ e, turn_list a _, ⟨_, Heap.get?_push_size _ rfl, rfl, rfl⟩, fun b hb => ?_, q⟩
  have e : b = s1.heap.objs.size := by simpa using hb
  subst e
  exact I1.fpOk (Nat.le_refl _) (I1.hok.fresh (Nat.le_refl _))
theorem pi_tup {l : Expr} {tl : TE} (hl : PE X l tl) : PI X tg l (iTup X.K tl) := by
  intro pins s σ H R I h
  refine thn (hl pins s σ H _ I h) fun v s1 ⟨x, H1, I1, r1, q1⟩ => ?_
  obtain ⟨a, e, ⟨xs, hq⟩, q⟩ := q1
  subst e
  cases r1
  obtain ⟨its, rv, p, hz⟩ := I1.tuple hq
  refine wpAny_pyIter_tuple (show s1.heap.IsTuple a its.toArray from p) ?_
  refine ⟨s1.heap.objs.size, [s1.heap.objs.size], _, _, H1, rfl, I1.kept (t' := s1.toks) fun b o e => Heap.get?_push_of_some _ e, turn_tuple a _, ⟨_, Heap.get?_push_size _ rfl, rfl, rfl⟩, fun b hb => ?_, q⟩
  have e : b = s1.heap.objs.size := by simpa using hb
  subst e
  exact I1.fpOk (Nat.le_refl _) (I1.hok.fresh (Nat.le_refl _))
theorem range_it {pins : List (Addr × Obj)} {σ : St} {H : Hp} {s : Shared} {R : It → Hp → Prop} {E : Value → Shared → Prop} {lo hi : Int} {t u v : Tok} {tk : Nat} (I : Inv X pins σ H s) (h1 : -(2 ^ 62) ≤ lo) (h2 : lo < 2 ^ 62) (h3 : -(2 ^ 62) ≤ hi) (h4 : hi < 2 ^ 62)
    (q : R (Itr lo (hi - lo).toNat) H) : wpAny (model X.prog X.w) X.A (pyIter (.ref s.heap.objs.size)) (PIE X pins σ tg R) E { s with heap := s.heap.push { cls := .type "range", data := .fields #[.int lo t, .int hi u, .int 1 v] }, toks := tk } := by
  refine wpAny_pyIter_range (IsRange.new ..) (small_one h1 h2 h3 h4) ?_
  have I1 : Inv X pins σ H { s with heap := s.heap.push { cls := .type "range", data := .fields #[.int lo t, .int hi u, .int 1 v] }, toks := tk } := I.kept fun b o e => Heap.get?_push_of_some _ e
  refine ⟨(s.heap.push { cls := .type "range", data := .fields #[.int lo t, .int hi u, .int 1 v] }).objs.size, [(s.heap.push { cls := .type "range", data := .fields #[.int lo t, .int hi u, .int 1 v] }).objs.size], _, _, H, rfl,
    I1.kept (t' := tk) fun b o e => Heap.get?_push_of_some _ e, turn_range _ lo (hi - lo).toNat, ?_, fun b hb => ?_, q⟩
  · have e1 : lo + ((0 : Nat) : Int) * 1 = lo := by simp
    have e2 : (((hi - lo).toNat : Nat) : Int) - ((0 : Nat) : Int) = Builtin.Range.rangeSize lo hi 1 := by rw [rangeSize_one]; split <;> trivial
    show IsRangeIter _ _ (lo + ((0 : Nat) : Int) * 1) ((((hi - lo).toNat : Nat) : Int) - ((0 : Nat) : Int)) 1
    rw [e1, e2]
    exact Heap.get?_push_size _ rfl
  · have e : b = (s.heap.push { cls := .type "range", data := .fields #[.int lo t, .int hi u, .int 1 v] }).objs.size := by simpa using hb
    subst e
    exact I1.fpOk (Nat.le_refl _) (I1.hok.fresh (Nat.le_refl _))
def iRng1 (ta : TA) : TI := fun σ H R => ta σ H fun vs H1 => ∃ j : Int, vs = [.int j] ∧ -(2 ^ 62) ≤ j ∧ j < 2 ^ 62 ∧ R (Itr 0 j.toNat) H1
def iRng2 (ta : TA) : TI := fun σ H R => ta σ H fun vs H1 => ∃ i j : Int, vs = [.int i, .int j] ∧ (-(2 ^ 62) ≤ i ∧ i < 2 ^ 62 ∧ -(2 ^ 62) ≤ j ∧ j < 2 ^ 62) ∧ R (Itr i (j - i).toNat) H1
theorem pi_range1 {a : Expr} {ta : TA} {p pos : Pos} (hg : Gl X "range") (hm : X.mg "range" = none) (ha : PA X [a] ta) (hs : starEach [a] X.env = [(false, eval a X.env)] := by rfl) : PI X tg (.Call (.Name "range" p) [a] [] pos) (iRng1 ta) := by
  intro pins s σ H R I h
  refine Call_ (ld_blt I hg hm boot_range (PyProof.Rows.callWith_type1 (thn (ha pos pins s σ H _ I h) fun us s1 ⟨vs, H1, I1, r1, q1⟩ => ?_) hs rfl))
  obtain ⟨j, e, q1, q2, q⟩ := q1
  subst e
  cases r1 with
  | cons r rr =>
    cases rr
    obtain ⟨t, rfl⟩ := r
    exact call_range_1 (range_it I1 (by trivial) (by trivial) q1 q2 (by simpa using q))
theorem pi_range2 {a b : Expr} {ta : TA} {p pos : Pos} (hg : Gl X "range") (hm : X.mg "range" = none) (ha : PA X [a, b] ta) (hs : starEach [a, b] X.env = [(false, eval a X.env), (false, eval b X.env)] := by rfl) (hs2 : starEach [b] X.env = [(false, eval b X.env)] := by rfl) :
    PI X tg (.Call (.Name "range" p) [a, b] [] pos) (iRng2 ta) := by
  intro pins s σ H R I h
  refine Call_ (ld_blt I hg hm boot_range (PyProof.Rows.callWith_type1 (thn (ha pos pins s σ H _ I h) fun us s1 ⟨vs, H1, I1, r1, q1⟩ => ?_) (by rw [hs, hs2]) (by rw [hs2]; rfl)))
  obtain ⟨i, j, e, ⟨q1, q2, q3, q4⟩, q⟩ := q1
  subst e
  cases r1 with
  | cons r rr =>
    cases rr with
    | cons r' rr =>
      cases rr
      obtain ⟨t, rfl⟩ := r
      obtain ⟨t', rfl⟩ := r'
      exact call_range_2 (range_it I1 q1 q2 q3 q4 q)
def tFor (wi : TI) (g : TG) (tb : TS) : TS := fun D σ H => wi σ H fun J H1 => ∃ W : Nat → Nat → St → Hp → Prop, (∃ m, W 0 m σ H1) ∧ ∀ i m σ H, W i m σ H →
  (J.stop i H ∧ D.nx σ H) ∨ (J.go i H ∧ ∃ N : St → Hp → Prop, (∀ σ' H', N σ' H' → ∃ m', m' < m ∧ W (i + 1) m' σ' H') ∧ ∀ x H', J.yld i H x H' → g x σ H' fun σ2 H2 => tb { D with nx := N, ct := N, bk := D.nx } σ2 H2)
def pinsAt (fp : List Addr) (h : Heap) : List (Addr × Obj) := fp.filterMap fun b => (h.get? b).map fun o => (b, o)
theorem mem_pinsAt {fp : List Addr} {h : Heap} {b : Addr} {o : Obj} (hb : b ∈ fp) (e : h.get? b = some o) : (b, o) ∈ pinsAt fp h := List.mem_filterMap.mpr ⟨b, hb, by rw [e]; rfl⟩
theorem of_pinsAt {fp : List Addr} {h : Heap} {p : Addr × Obj} (hp : p ∈ pinsAt fp h) : p.1 ∈ fp ∧ h.get? p.1 = some p.2 := by
  obtain ⟨b, hb, e⟩ := List.mem_filterMap.mp hp
  cases q : h.get? b with
  | none => rw [q] at e; cases e
  | some o =>
    rw [q] at e
    have e' : (b, o) = p := Option.some.inj e
    subst e'
    exact ⟨hb, q⟩
theorem Inv.pinned {pins : List (Addr × Obj)} {σ : St} {H : Hp} {s : Shared} {fp : List Addr} (I : Inv X pins σ H s) (hf : ∀ b ∈ fp, FpOk X pins H b) (ho : ∀ b ∈ fp, ∃ o, s.heap.get? b = some o ∧ ∀ v, o.data ≠ .cell v) : Inv X (pins ++ pinsAt fp s.heap) σ H s :=
  I.pins_of fun p hp => (List.mem_append.mp hp).elim (fun z => I.pin p (List.mem_append_right _ z)) fun z => by
    obtain ⟨hb, e⟩ := of_pinsAt z
    obtain ⟨f0, f1, f2, _⟩ := hf p.1 hb
    obtain ⟨o, e', d⟩ := ho p.1 hb
    rw [e] at e'; cases e'
    exact ⟨e, f0, f1, f2, d⟩
theorem Inv.unpinned {pins pl : List (Addr × Obj)} {σ : St} {H : Hp} {s : Shared} (I : Inv X (pins ++ pl) σ H s) : Inv X pins σ H s := I.pins_of fun p hp => I.pin p (List.mem_append_right _ (List.mem_append_left _ hp))
theorem ps_for {iter : Expr} {body : List Stmt} {wi : TI} {g : TG} {tb : TS} {pos : Pos} (hp : PassesOwn (model X.prog X.w) X.A X.env X.xe) (hc : X.calm = true) (hi : PI X tg iter wi) (hg : PG X tg g) (hb : PSs X body tb)
    (hs : ∀ x, foldedSetIterable iter X.env x = pure x := by intro _; rfl) : PS X (.For tg iter body [] pos) (tFor wi g tb) := by
  intro pins s σ H D I h
  refine wpAny_For (thn (hi pins s σ H _ I h) fun v s1 h1 => thn h1 fun itv s2 h2 => ?_) hs
  obtain ⟨it, fp, tn, J, H2, e, I2, T, st2, f2, W, ⟨m0, w0⟩, turn⟩ := h2
  subst e
  have stat : ∀ {H' : Hp}, (∀ b ∈ fp, H' b = none) → ∀ b ∈ fp, FpOk X pins H' b := fun hn b hb => ⟨hn b hb, (f2 b hb).2⟩
  refine codeAny_forLoop_any (fun n s' => ∃ i σ' H', Inv X pins σ' H' s' ∧ tn i s'.heap ∧ (∀ b ∈ fp, H' b = none) ∧ W i n σ' H') ?_ m0 ⟨0, σ, H2, I2, st2, fun b hb => (f2 b hb).1, w0⟩
  rintro n s3 ⟨i, σ3, H3, I3, st3, fr3, w3⟩
  rcases turn i n σ3 H3 w3 with ⟨stop, qn⟩ | ⟨go, N, hN, step⟩
  · refine wpAny_passesOwn hp (thn (T.done X rfl rfl rfl hc i pins s3 σ3 H3 X.xe I3 (stat fr3) st3 stop) fun r s4 ⟨hr, I4⟩ => ?_)
    subst hr
    exact wpAny_execs_nil ⟨σ3, H3, I4, qn⟩
  · refine wpAny_passesOwn hp (thn (T.item X rfl rfl rfl hc i pins s3 σ3 H3 X.xe I3 (stat fr3) st3 go) fun r s4 ⟨u, hr, h4⟩ => ?_)
    subst hr
    refine wpAny_passesOwn hp (thn h4 fun _ s5 ⟨x, H5, I5, r5, y5, st5, fr5⟩ => ?_)
    have I5' := I5.pinned (stat fr5) (T.obj _ _ st5)
    refine wpAny_passesOwn hp (thn (hg _ s5 σ3 H5 x u _ I5' r5 (step x H5 y5)) fun _ s6 ⟨σ6, H6, I6, q6⟩ => ?_)
    refine wpAny_passesOwn hp (thn (hb _ s6 σ6 H6 _ I6 q6) fun f s7 q7 => ?_)
    have again : ∀ {σ7 : St} {H7 : Hp}, Inv X (pins ++ pinsAt fp s5.heap) σ7 H7 s7 → N σ7 H7 → ∃ m, m < n ∧ ∃ i σ' H', Inv X pins σ' H' s7 ∧ tn i s7.heap ∧ (∀ b ∈ fp, H' b = none) ∧ W i m σ' H' := fun {σ7 H7} I7 n7 => by
      obtain ⟨m', hm, w7⟩ := hN σ7 H7 n7
      refine ⟨m', hm, i + 1, σ7, H7, I7.unpinned, T.keep _ _ _ st5 fun b hb o e => (I7.pin (b, o) (List.mem_append_right _ (List.mem_append_right _ (mem_pinsAt hb e)))).1, fun b hb => ?_, w7⟩
      obtain ⟨o, e, d⟩ := T.obj _ _ st5 b hb
      exact (I7.pin (b, o) (List.mem_append_right _ (List.mem_append_right _ (mem_pinsAt hb e)))).2.1
    cases f with
    | next => obtain ⟨σ7, H7, I7, n7⟩ := q7; exact again I7 n7
    | cont => obtain ⟨σ7, H7, I7, n7⟩ := q7; exact again I7 n7
    | brk => obtain ⟨σ7, H7, I7, q7⟩ := q7; exact ⟨σ7, H7, I7.unpinned, q7⟩
    | ret v => obtain ⟨x7, σ7, H7, I7, r7, q7⟩ := q7; exact ⟨x7, σ7, H7, I7.unpinned, r7, q7⟩
end
theorem for_list {K : PySem.W.Frag} {a : Addr} {xs : List V} {g : TG} {tb : TS} {D : Ends} {σ : St} {H : Hp} (Pv : Nat → St → Hp → Prop) (h0 : Pv 0 σ H) (hl : ∀ i σ H, i ≤ xs.length → Pv i σ H → SqL K H a xs)
    (hs : ∀ i x σ H, xs[i]? = some x → Pv i σ H → g x σ H fun σ2 H2 => tb { D with nx := Pv (i + 1), ct := Pv (i + 1), bk := D.nx } σ2 H2) (hd : ∀ σ H, Pv xs.length σ H → D.nx σ H) :
    ∃ W : Nat → Nat → St → Hp → Prop, (∃ m, W 0 m σ H) ∧ ∀ i m σ H, W i m σ H →
      ((Itl K a).stop i H ∧ D.nx σ H) ∨ ((Itl K a).go i H ∧ ∃ N : St → Hp → Prop, (∀ σ' H', N σ' H' → ∃ m', m' < m ∧ W (i + 1) m' σ' H') ∧ ∀ x H', (Itl K a).yld i H x H' → g x σ H' fun σ2 H2 => tb { D with nx := N, ct := N, bk := D.nx } σ2 H2) := by
  refine ⟨fun i m σ H => m = xs.length - i ∧ i ≤ xs.length ∧ Pv i σ H, ⟨xs.length, by simp, Nat.zero_le _, h0⟩, ?_⟩
  rintro i m σ H ⟨rfl, hi, p⟩
  have q := hl i σ H hi p
  by_cases hlt : i < xs.length
  · refine .inr ⟨⟨xs, xs[i], q, by simp [hlt]⟩, Pv (i + 1), fun σ' H' p' => ⟨xs.length - (i + 1), by trivial, rfl, hlt, p'⟩, fun x H' y => ?_⟩
    obtain ⟨e, y⟩ := y
    subst e
    exact hs i x σ _ (y xs q) p
  · have e : i = xs.length := by trivial
    subst e
    exact .inl ⟨⟨xs, q, Nat.le_refl _⟩, hd σ H p⟩
theorem for_range {lo : Int} {n : Nat} {g : TG} {tb : TS} {D : Ends} {σ : St} {H : Hp} (Pv : Nat → St → Hp → Prop) (h0 : Pv 0 σ H)
    (hs : ∀ i σ H, i < n → Pv i σ H → g (.int (lo + i)) σ H fun σ2 H2 => tb { D with nx := Pv (i + 1), ct := Pv (i + 1), bk := D.nx } σ2 H2) (hd : ∀ σ H, Pv n σ H → D.nx σ H) :
    ∃ W : Nat → Nat → St → Hp → Prop, (∃ m, W 0 m σ H) ∧ ∀ i m σ H, W i m σ H →
      ((Itr lo n).stop i H ∧ D.nx σ H) ∨ ((Itr lo n).go i H ∧ ∃ N : St → Hp → Prop, (∀ σ' H', N σ' H' → ∃ m', m' < m ∧ W (i + 1) m' σ' H') ∧ ∀ x H', (Itr lo n).yld i H x H' → g x σ H' fun σ2 H2 => tb { D with nx := N, ct := N, bk := D.nx } σ2 H2) := by
  refine ⟨fun i m σ H => m = n - i ∧ i ≤ n ∧ Pv i σ H, ⟨n, by simp, Nat.zero_le _, h0⟩, ?_⟩
  rintro i m σ H ⟨rfl, hi, p⟩
  by_cases hlt : i < n
  · refine .inr ⟨hlt, Pv (i + 1), fun σ' H' p' => ⟨n - (i + 1), by trivial, rfl, hlt, p'⟩, fun x H' y => ?_⟩
    obtain ⟨e, y⟩ := y
    subst e y
    exact hs i σ _ hlt p
  · have e : i = n := by trivial
    subst e
    exact .inl ⟨Nat.le_refl _, hd σ H p⟩
end L2
namespace L2
open PySem PySem.Spec PyProof.Rows
abbrev R2 := V → V → Hp → VK → Prop
def OpR (X : Cx) (f : Value → Value → Sem Value) (r : R2) : Prop :=
  ∀ (pins : List (Addr × Obj)) (s : Shared) (σ : St) (H : Hp) (x y : V) (v u : Value) (Q : VK), Inv X pins σ H s → RelV x v → RelV y u → r x y H Q →
    wpAny (model X.prog X.w) X.A (f v u) (EP X pins σ Q) X.xe s
def UnR (X : Cx) (f : Value → Sem Value) (r : V → Hp → VK → Prop) : Prop :=
  ∀ (pins : List (Addr × Obj)) (s : Shared) (σ : St) (H : Hp) (x : V) (v : Value) (Q : VK), Inv X pins σ H s → RelV x v → r x H Q →
    wpAny (model X.prog X.w) X.A (f v) (EP X pins σ Q) X.xe s
def CallR (X : Cx) (f : Value) (r : List V → Hp → VK → Prop) : Prop :=
  ∀ (pins : List (Addr × Obj)) (s : Shared) (σ : St) (H : Hp) (xs : List V) (us : List Value) (Q : VK), Inv X pins σ H s → Vals xs us → r xs H Q →
    wpAny (model X.prog X.w) X.A (call f us) (EP X pins σ Q) X.xe s
def tOp (r : R2) (ta tb : TE) : TE := fun σ H Q => ta σ H fun x H1 => tb σ H1 fun y H2 => r x y H2 Q
def tUn (r : V → Hp → VK → Prop) (ta : TE) : TE := fun σ H Q => ta σ H fun x H1 => r x H1 Q
def rI (C : Int → Int → Prop) (g : Int → Int → V) : R2 := fun x y H Q => ∃ i j, x = .int i ∧ y = .int j ∧ C i j ∧ Q (g i j) H
def rI0 (g : Int → Int → V) : R2 := fun x y H Q => ∃ i j, x = .int i ∧ y = .int j ∧ Q (g i j) H
def rU (g : Int → V) : V → Hp → VK → Prop := fun x H Q => ∃ i, x = .int i ∧ Q (g i) H
section
variable {X : Cx} {a b c : Expr} {ta tb tc : TE} {pos : Pos}
theorem binT (ha : PE X a ta) (hb : PE X b tb) {pins : List (Addr × Obj)} {s : Shared} {σ : St} {H : Hp} {R : V → V → Hp → Prop} (I : Inv X pins σ H s)
    (h : ta σ H fun x H1 => tb σ H1 fun y H2 => R x y H2) {Q : Value → Shared → Prop} {f : Value → Value → Sem Value}
    (hf : ∀ v u s2 x y H2, Inv X pins σ H2 s2 → RelV x v → RelV y u → R x y H2 → wpAny (model X.prog X.w) X.A (f v u) Q X.xe s2) :
    wpAny (model X.prog X.w) X.A (eval a X.env) (fun v s₁ => wpAny (model X.prog X.w) X.A (eval b X.env) (fun u s₂ => wpAny (model X.prog X.w) X.A (f v u) Q X.xe s₂) X.xe s₁) X.xe s := by
  refine thn (ha pins s σ H _ I h) fun v s1 ⟨x, H1, I1, r1, q1⟩ => ?_
  refine thn (hb pins s1 σ H1 _ I1 q1) fun u s2 ⟨y, H2, I2, r2, q2⟩ => ?_
  exact hf v u s2 x y H2 I2 r1 r2 q2
theorem pe_op {op : Operator} {r : R2} (ho : OpR X (binaryOp op) r) (ha : PE X a ta) (hb : PE X b tb) : PE X (.BinOp a op b pos) (tOp r ta tb) := by
  intro pins s σ H Q I h
  exact wpAny_BinOp (binT ha hb I h fun v u s2 x y H2 I2 rx ry q => ho pins s2 σ H2 x y v u Q I2 rx ry q)
theorem pe_un {op : UnaryOp} {r : V → Hp → VK → Prop} (ho : UnR X (unaryOp op) r) (ha : PE X a ta) : PE X (.UnaryOp op a pos) (tUn r ta) := by
  intro pins s σ H Q I h
  exact UnaryOp_ (thn (ha pins s σ H _ I h) fun v s1 ⟨x, H1, I1, r1, q1⟩ => ho pins s1 σ H1 x v Q I1 r1 q1)
theorem opI {f : Value → Value → Sem Value} {C : Int → Int → Prop} {g : Int → Int → Int}
    (rule : ∀ (i j : Int) (t u : Tok) (s : Shared) (Q : Value → Shared → Prop) (E : Value → Shared → Prop), C i j → Q (.int (g i j) s.toks) { s with toks := s.toks + 1 } → wpAny (model X.prog X.w) X.A (f (.int i t) (.int j u)) Q E s) :
    OpR X f (rI C fun i j => .int (g i j)) := by
  intro pins s σ H x y v u Q I rx ry h
  obtain ⟨i, j, rfl, rfl, hc, q⟩ := h
  obtain ⟨t, rfl⟩ := rx
  obtain ⟨t', rfl⟩ := ry
  exact rule i j t t' s _ _ hc ⟨.int (g i j), H, I.tok _, ⟨_, rfl⟩, q⟩
theorem opI0 {f : Value → Value → Sem Value} {g : Int → Int → Int}
    (rule : ∀ (i j : Int) (t u : Tok) (s : Shared) (Q : Value → Shared → Prop) (E : Value → Shared → Prop), Q (.int (g i j) s.toks) { s with toks := s.toks + 1 } → wpAny (model X.prog X.w) X.A (f (.int i t) (.int j u)) Q E s) :
    OpR X f (rI0 fun i j => .int (g i j)) := by
  intro pins s σ H x y v u Q I rx ry h
  obtain ⟨i, j, rfl, rfl, q⟩ := h
  obtain ⟨t, rfl⟩ := rx
  obtain ⟨t', rfl⟩ := ry
  exact rule i j t t' s _ _ ⟨.int (g i j), H, I.tok _, ⟨_, rfl⟩, q⟩
theorem opB0 {f : Value → Value → Sem Value} {g : Int → Int → Bool}
    (rule : ∀ (i j : Int) (t u : Tok) (s : Shared) (Q : Value → Shared → Prop) (E : Value → Shared → Prop), Q (.bool (g i j)) s → wpAny (model X.prog X.w) X.A (f (.int i t) (.int j u)) Q E s) :
    OpR X f (rI0 fun i j => .bl (g i j)) := by
  intro pins s σ H x y v u Q I rx ry h
  obtain ⟨i, j, rfl, rfl, q⟩ := h
  obtain ⟨t, rfl⟩ := rx
  obtain ⟨t', rfl⟩ := ry
  exact rule i j t t' s _ _ ⟨.bl (g i j), H, I, rfl, q⟩
def CDiv (i j : Int) : Prop := 0 < j ∧ j < 1073741824
theorem op_add : OpR X (binaryOp .Add) (rI0 fun i j => .int (i + j)) := opI0 fun _ _ _ _ _ _ _ q => add_int q
theorem op_sub : OpR X (binaryOp .Sub) (rI0 fun i j => .int (i - j)) := opI0 fun _ _ _ _ _ _ _ q => sub_int q
theorem op_fdiv : OpR X (binaryOp .FloorDiv) (rI CDiv fun i j => .int (i / j)) := opI fun i j _ _ _ _ _ hc q => by
  have h1 : (0 : Int) < j := hc.1
  have h2 : j < 1073741824 := hc.2
  exact floordiv_int (by trivial) (by rw [Int.fdiv_eq_ediv_of_nonneg i (by trivial)]; exact q) (.inl (PyProof.noPylong_small (by trivial)))
theorem op_mod : OpR X (binaryOp .Mod) (rI (fun _ j => 0 < j) fun i j => .int (i % j)) := opI fun i j _ _ _ _ _ hc q => by
  have h1 : (0 : Int) < j := hc
  exact mod_int' (by trivial) (by rw [Int.fmod_eq_emod_of_nonneg i (by trivial)]; exact q)
theorem unI {f : Value → Sem Value} {g : Int → Int}
    (rule : ∀ (i : Int) (t : Tok) (s : Shared) (Q : Value → Shared → Prop) (E : Value → Shared → Prop), Q (.int (g i) s.toks) { s with toks := s.toks + 1 } → wpAny (model X.prog X.w) X.A (f (.int i t)) Q E s) :
    UnR X f (rU fun i => .int (g i)) := by
  intro pins s σ H x v Q I rx h
  obtain ⟨i, rfl, q⟩ := h
  obtain ⟨t, rfl⟩ := rx
  exact rule i t s _ _ ⟨.int (g i), H, I.tok _, ⟨_, rfl⟩, q⟩
theorem un_neg : UnR X (unaryOp .USub) (rU fun i => .int (-i)) := unI fun _ _ _ _ _ q => neg_int q
end
def scal : V → V → Bool
  | .non, .non => true | .non, .int _ => true | .int _, .non => true | .non, .bl _ => true | .bl _, .non => true | .non, .str _ => true | .str _, .non => true
  | .int _, .int _ => true | .bl _, .bl _ => true | .str _, .str _ => true | .byt _, .byt _ => true
  | .int _, .str _ => true | .str _, .int _ => true | .bl _, .str _ => true | .str _, .bl _ => true
  | _, _ => false
def rEq : R2 := fun x y H Q => scal x y = true ∧ Q (.bl (decide (x = y))) H
def rNe : R2 := fun x y H Q => scal x y = true ∧ Q (.bl (!decide (x = y))) H
theorem dec_int {i j : Int} : decide (V.int i = V.int j) = (i == j) := by
  rw [Bool.eq_iff_iff]
  simp
theorem dec_bl {i j : Bool} : decide (V.bl i = V.bl j) = (i == j) := by
  rw [Bool.eq_iff_iff]
  simp
theorem dec_str {i j : Str} : decide (V.str i = V.str j) = (i == j) := by
  rw [Bool.eq_iff_iff]
  simp
theorem dec_byt {i j : Array UInt8} : decide (V.byt i = V.byt j) = (i.toList == j.toList) := by
  rw [Bool.eq_iff_iff]
  cases i
  cases j
  simp
section
variable {X : Cx} {a b c : Expr} {ta tb tc : TE} {pos : Pos}
theorem fin_bl {pins : List (Addr × Obj)} {σ : St} {H : Hp} {s : Shared} {Q : VK} {k k' : Bool} (I : Inv X pins σ H s) (q : Q (.bl k) H) (e : k = k') : EP X pins σ Q (.bool k') s := by
  subst e
  exact ⟨.bl k, H, I, rfl, q⟩
theorem op_eq : OpR X (compareOp .Eq) rEq := by
  intro pins s σ H x y v u Q I rx ry h
  obtain ⟨hs, q⟩ := h
  cases x with
  | non =>
    cases rx
    cases y with
    | non => cases ry; exact PySem.EqNone.eq_none_none (fin_bl I q (by simp))
    | bl j => cases ry; exact PySem.EqNone.eq_none_bool (fin_bl I q (by simp))
    | int j => obtain ⟨t', rfl⟩ := ry; exact PySem.EqNone.eq_none_int (fin_bl I q (by simp))
    | str j => obtain ⟨t', rfl⟩ := ry; exact PySem.EqNone.eq_none_str (fin_bl I q (by simp))
    | _ => exact absurd (show false = true from hs) Bool.false_ne_true
  | bl i =>
    cases rx
    cases y with
    | non => cases ry; exact PySem.EqNone.eq_bool_none (fin_bl I q (by simp))
    | bl j => cases ry; exact eq_bool (fin_bl I q dec_bl)
    | str j => obtain ⟨t', rfl⟩ := ry; exact PySem.EqMixed.eq_bool_str (fin_bl I q (by simp))
    | _ => exact absurd (show false = true from hs) Bool.false_ne_true
  | int i =>
    obtain ⟨t, rfl⟩ := rx
    cases y with
    | non => cases ry; exact PySem.EqNone.eq_int_none (fin_bl I q (by simp))
    | int j => obtain ⟨t', rfl⟩ := ry; exact eq_int (fin_bl I q dec_int)
    | str j => obtain ⟨t', rfl⟩ := ry; exact PySem.EqMixed.eq_int_str (fin_bl I q (by simp))
    | _ => exact absurd (show false = true from hs) Bool.false_ne_true
  | str i =>
    obtain ⟨t, rfl⟩ := rx
    cases y with
    | non => cases ry; exact PySem.EqNone.eq_str_none (fin_bl I q (by simp))
    | bl j => cases ry; exact PySem.EqMixed.eq_str_bool (fin_bl I q (by simp))
    | int j => obtain ⟨t', rfl⟩ := ry; exact PySem.EqMixed.eq_str_int (fin_bl I q (by simp))
    | str j => obtain ⟨t', rfl⟩ := ry; exact eq_str (fin_bl I q dec_str)
    | _ => exact absurd (show false = true from hs) Bool.false_ne_true
  | byt i =>
    obtain ⟨t, rfl⟩ := rx
    cases y with
    | byt j => obtain ⟨t', rfl⟩ := ry; exact PySem.W.eq_bytes (fin_bl I q dec_byt)
    | _ => exact absurd (show false = true from hs) Bool.false_ne_true
  | _ => cases y <;> exact absurd (show false = true from hs) Bool.false_ne_true
theorem op_ne : OpR X (compareOp .NotEq) rNe := by
  intro pins s σ H x y v u Q I rx ry h
  obtain ⟨hs, q⟩ := h
  cases x with
  | non =>
    cases rx
    cases y with
    | non => cases ry; exact PySem.EqNone.ne_none_none (fin_bl I q (by simp))
    | bl j => cases ry; exact PySem.EqNone.ne_none_bool (fin_bl I q (by simp))
    | int j => obtain ⟨t', rfl⟩ := ry; exact PySem.EqNone.ne_none_int (fin_bl I q (by simp))
    | str j => obtain ⟨t', rfl⟩ := ry; exact PySem.EqNone.ne_none_str (fin_bl I q (by simp))
    | _ => exact absurd (show false = true from hs) Bool.false_ne_true
  | bl i =>
    cases rx
    cases y with
    | non => cases ry; exact PySem.EqNone.ne_bool_none (fin_bl I q (by simp))
    | bl j => cases ry; exact ne_bool (fin_bl I q (congrArg not dec_bl))
    | str j => obtain ⟨t', rfl⟩ := ry; exact PySem.EqMixed.ne_bool_str (fin_bl I q (by simp))
    | _ => exact absurd (show false = true from hs) Bool.false_ne_true
  | int i =>
    obtain ⟨t, rfl⟩ := rx
    cases y with
    | non => cases ry; exact PySem.EqNone.ne_int_none (fin_bl I q (by simp))
    | int j => obtain ⟨t', rfl⟩ := ry; exact ne_int (fin_bl I q (congrArg not dec_int))
    | str j => obtain ⟨t', rfl⟩ := ry; exact PySem.EqMixed.ne_int_str (fin_bl I q (by simp))
    | _ => exact absurd (show false = true from hs) Bool.false_ne_true
  | str i =>
    obtain ⟨t, rfl⟩ := rx
    cases y with
    | non => cases ry; exact PySem.EqNone.ne_str_none (fin_bl I q (by simp))
    | bl j => cases ry; exact PySem.EqMixed.ne_str_bool (fin_bl I q (by simp))
    | int j => obtain ⟨t', rfl⟩ := ry; exact PySem.EqMixed.ne_str_int (fin_bl I q (by simp))
    | str j => obtain ⟨t', rfl⟩ := ry; exact ne_str (fin_bl I q (congrArg not dec_str))
    | _ => exact absurd (show false = true from hs) Bool.false_ne_true
  | byt i =>
    obtain ⟨t, rfl⟩ := rx
    cases y with
    | byt j => obtain ⟨t', rfl⟩ := ry; exact PySem.W.ne_bytes (fin_bl I q (congrArg not dec_byt))
    | _ => exact absurd (show false = true from hs) Bool.false_ne_true
  | _ => cases y <;> exact absurd (show false = true from hs) Bool.false_ne_true
theorem op_lt : OpR X (compareOp .Lt) (rI0 fun i j => .bl (decide (i < j))) := opB0 fun _ _ _ _ _ _ _ q => lt_int q
theorem op_le : OpR X (compareOp .LtE) (rI0 fun i j => .bl (decide (i ≤ j))) := opB0 fun _ _ _ _ _ _ _ q => le_int q
theorem op_gt : OpR X (compareOp .Gt) (rI0 fun i j => .bl (decide (j < i))) := opB0 fun _ _ _ _ _ _ _ q => gt_int q
theorem op_isN : OpR X (compareOp .Is) (fun x y H Q => y = .non ∧ Q (.bl (decide (x = .non))) H) := by
  intro pins s σ H x y v u Q I rx ry h
  obtain ⟨rfl, q⟩ := h
  cases ry
  refine is_none_gen (fin_bl I q ?_)
  cases x <;> first
    | (cases rx; rfl)
    | (obtain ⟨t, rfl⟩ := rx; rfl)
theorem op_notN : OpR X (compareOp .IsNot) (fun x y H Q => y = .non ∧ Q (.bl (!decide (x = .non))) H) := by
  intro pins s σ H x y v u Q I rx ry h
  obtain ⟨rfl, q⟩ := h
  cases ry
  refine isnot_none_gen (fin_bl I q ?_)
  cases x <;> first
    | (cases rx; rfl)
    | (obtain ⟨t, rfl⟩ := rx; rfl)
theorem nomark (b : Expr) {op : CmpOp} (h : op ≠ .In := by decide) (h2 : op ≠ .NotIn := by decide) : behindInMarks op b = false := by
  have e1 : (op == CmpOp.In) = false := by cases op <;> first | rfl | exact absurd rfl h
  have e2 : (op == CmpOp.NotIn) = false := by cases op <;> first | rfl | exact absurd rfl h2
  cases b <;> simp [behindInMarks, e1, e2]
theorem pe_cmpR {op : CmpOp} {r : R2} (ho : OpR X (compareOp op) r) (ha : PE X a ta) (hb : PE X b tb) (hm : behindInMarks op b = false) : PE X (.Compare a [op] [b] pos) (tOp r ta tb) := by
  intro pins s σ H Q I h
  exact wpAny_Compare1 (binT ha hb I h fun v u s2 x y H2 I2 rx ry q => ho pins s2 σ H2 x y v u Q I2 rx ry q) hm
def tTest (t : TE) : TT := fun σ H Q => t σ H fun x H' => ∃ k, x = .bl k ∧ Q k H'
theorem pt_cmpR {op : CmpOp} {r : R2} (ho : OpR X (compareOp op) r) (ha : PE X a ta) (hb : PE X b tb) (hm : behindInMarks op b = false) : PT X (.Compare a [op] [b] pos) (tTest (tOp r ta tb)) := by
  intro pins s σ H Q I h
  refine wpAny_isTrue_Compare1 (thn (ha pins s σ H _ I h) fun v s1 ⟨x, H1, I1, r1, q1⟩ => thn (hb pins s1 σ H1 _ I1 q1) fun u s2 ⟨y, H2, I2, r2, q2⟩ =>
    thn (ho pins s2 σ H2 x y v u _ I2 r1 r2 q2) fun c s3 ⟨z, H3, I3, r3, k, e, q3⟩ => ?_) hm
  subst e
  cases r3
  exact wpAny_truthy_bool ⟨H3, I3, q3⟩
def tChain (r r' : R2) (ta tb tc : TE) : TE := fun σ H Q => ta σ H fun x H1 => tb σ H1 fun y H2 => r x y H2 fun z H3 => ∃ k, z = .bl k ∧
  (if k = true then tc σ H3 fun w' H4 => r' y w' H4 Q else Q (.bl false) H3)
theorem pe_chain {op op' : CmpOp} {r r' : R2} (ho : OpR X (compareOp op) r) (ho' : OpR X (compareOp op') r') (ha : PE X a ta) (hb : PE X b tb) (hc : PE X c tc)
    (hm : lastMarks [op, op'] [b, c] = false := by with_unfolding_all rfl) : PE X (.Compare a [op, op'] [b, c] pos) (tChain r r' ta tb tc) := by
  intro pins s σ H Q I h
  refine Compare_chain (thn (ha pins s σ H _ I h) fun v s1 ⟨x, H1, I1, r1, q1⟩ => chain_link (thn (hb pins s1 σ H1 _ I1 q1) fun u s2 ⟨y, H2, I2, r2, q2⟩ =>
    thn (ho pins s2 σ H2 x y v u _ I2 r1 r2 q2) fun d s3 ⟨z, H3, I3, r3, k, e, q3⟩ => ?_)) hm
  subst e
  cases r3
  refine wpAny_truthy_bool ?_
  cases k with
  | false => exact ite_ff ⟨.bl false, H3, I3, rfl, q3⟩
  | true => exact ite_tt (chain_last (thn (hc pins s3 σ H3 _ I3 q3) fun w' s4 ⟨z', H4, I4, r4, q4⟩ => ho' pins s4 σ H4 y z' u w' Q I4 r2 r4 q4))
theorem pt_chain {op op' : CmpOp} {r r' : R2} (ho : OpR X (compareOp op) r) (ho' : OpR X (compareOp op') r') (ha : PE X a ta) (hb : PE X b tb) (hc : PE X c tc)
    (hm : lastMarks [op, op'] [b, c] = false := by with_unfolding_all rfl) : PT X (.Compare a [op, op'] [b, c] pos) (tTest (tChain r r' ta tb tc)) := by
  intro pins s σ H Q I h
  refine isTrue_chain (thn (ha pins s σ H _ I h) fun v s1 ⟨x, H1, I1, r1, q1⟩ => test_link (thn (hb pins s1 σ H1 _ I1 q1) fun u s2 ⟨y, H2, I2, r2, q2⟩ =>
    thn (ho pins s2 σ H2 x y v u _ I2 r1 r2 q2) fun d s3 ⟨z, H3, I3, r3, k, e, q3⟩ => ?_)) hm
  subst e
  cases r3
  refine wpAny_truthy_bool ?_
  cases k with
  | false =>
    obtain ⟨k', e', q'⟩ := q3
    cases e'
    exact ite_ff ⟨H3, I3, q'⟩
  | true =>
    refine ite_tt (test_last (thn (hc pins s3 σ H3 _ I3 q3) fun w' s4 ⟨z', H4, I4, r4, q4⟩ => thn (ho' pins s4 σ H4 y z' u w' _ I4 r2 r4 q4) fun d' s5 ⟨z2, H5, I5, r5, k2, e2, q5⟩ => ?_))
    subst e2
    cases r5
    exact wpAny_truthy_bool ⟨H5, I5, q5⟩
theorem line63 : (sizeLine : Nat) < 2 ^ 63 := by rw [sizeLine_eq]; decide
theorem vals1 {x : V} {us : List Value} (r : Vals [x] us) : ∃ u, us = [u] ∧ RelV x u := by
  cases r with
  | cons r1 r2 => cases r2; exact ⟨_, rfl, r1⟩
theorem vals2 {x y : V} {us : List Value} (r : Vals [x, y] us) : ∃ u w', us = [u, w'] ∧ RelV x u ∧ RelV y w' := by
  cases r with
  | cons r1 r2 =>
    cases r2 with
    | cons r3 r4 => cases r4; exact ⟨_, _, rfl, r1, r3⟩
theorem call_abs : CallR X (.builtin "abs") (fun xs H Q => ∃ i, xs = [.int i] ∧ Q (.int (if i < 0 then -i else i)) H) := by
  intro pins s σ H xs us Q I r h
  obtain ⟨i, rfl, q⟩ := h
  obtain ⟨u, rfl, t, rfl⟩ := vals1 r
  exact call_abs_int fun u tk => ⟨.int (if i < 0 then -i else i), H, I.tok _, ⟨_, rfl⟩, q⟩
theorem call_max2 (hc : X.calm = true) : CallR X (.builtin "max") (fun xs H Q => ∃ i j, xs = [.int i, .int j] ∧ Q (.int (if j > i then j else i)) H) := by
  intro pins s σ H xs us Q I r h
  obtain ⟨i, j, rfl, q⟩ := h
  obtain ⟨u, w', rfl, ⟨t, rfl⟩, ⟨t', rfl⟩⟩ := vals2 r
  refine max_two_ints (I.ok.hd hc) fun h' tk k => ⟨_, H, I.kept k, ?_, q⟩
  by_cases hj : j > i
  · rw [if_pos hj, if_pos hj]; exact ⟨_, rfl⟩
  · rw [if_neg hj, if_neg hj]; exact ⟨_, rfl⟩
theorem call_min2 (hc : X.calm = true) : CallR X (.builtin "min") (fun xs H Q => ∃ i j, xs = [.int i, .int j] ∧ Q (.int (if j < i then j else i)) H) := by
  intro pins s σ H xs us Q I r h
  obtain ⟨i, j, rfl, q⟩ := h
  obtain ⟨u, w', rfl, ⟨t, rfl⟩, ⟨t', rfl⟩⟩ := vals2 r
  refine min_two_ints (I.ok.hd hc) fun h' tk k => ⟨_, H, I.kept k, ?_, q⟩
  by_cases hj : j < i
  · rw [if_pos hj, if_pos hj]; exact ⟨_, rfl⟩
  · rw [if_neg hj, if_neg hj]; exact ⟨_, rfl⟩
end
end L2
namespace L2
open PySem PySem.Spec PyProof.Rows
structure ObjM (h : Heap) (x dx C : Addr) (mA : Str → Option Value) : Prop where
  obj : h.get? x = some (PySem.W.instObj C dx)
  ns : h.Ns1 dx mA
  ne : dx ≠ x
section
variable {prog : Program} {w : World} {A : Around} {E : Value → Shared → Prop} {s : Shared} {K : PySem.W.Frag} {x dx C f : Addr} {mA : Str → Option Value} {name : Str} {v : Value}
end
section
variable {P : Program} {w : World} {H H' : Hp} {h h' : Heap} {a C dx : Addr} {fs fs' : List (Str × V)}
end
structure Cls (K : PySem.W.Frag) (C : Addr) : Prop where
  pg : PySem.W.plainGet K C Str.empty = true
  hd : PySem.W.hasDictIn K C = true
  po : PySem.W.plainOver K C = true
  sa : PySem.W.findIn K (.ref C) "__setattr__" = some (some (.builtin "object.__setattr__"))
structure Con (K : PySem.W.Frag) (C : Addr) (f : Str) (v : V) (u : Value) : Prop where
  at_ : PySem.W.findIn K (.ref C) f = some (some u)
  rel : RelV v u
  get : PySem.W.specialIn K u "__get__" = some none
  cp : PySem.W.copiedNames.contains f = false
structure Meth (K : PySem.W.Frag) (C : Addr) (m : Str) (f : Addr) : Prop where
  at_ : PySem.W.findIn K (.ref C) m = some (some (.ref f))
  fn : PySem.W.isFn K (.ref f) = true
  kp : PySem.W.keepIn K (.ref f) = true
section
variable {X : Cx} {pins : List (Addr × Obj)} {σ : St} {H : Hp} {s : Shared} {a C dx : Addr} {fs : List (Str × V)} {f : Str} {v : V} {A : Around} {E : Value → Shared → Prop}
end
section
variable {X : Cx} {o e value : Expr} {f : Str} {pos pos' tpos : Pos} {ta tv : TE}
end
section
variable {X : Cx} {pins : List (Addr × Obj)} {σ : St} {H : Hp} {s : Shared} {A : Around} {E : Value → Shared → Prop} {Q : Value → Shared → Prop} {c : Value} {b : Bool}
inductive TyOf (K : PySem.W.Frag) (H : Hp) : V → Value → Prop where
  | non : TyOf K H .non (.type "NoneType")
  | bl (x : Bool) : TyOf K H (.bl x) (.type "bool")
  | int (i : Int) : TyOf K H (.int i) (.type "int")
  | str (x : Str) : TyOf K H (.str x) (.type "str")
  | flt (x : UInt64) : TyOf K H (.flt x) (.type "float")
  | lst {a : Addr} {xs : List V} (e : H a = some (.lst xs)) : TyOf K H (.ref a) (.type "list")
  | frz {a : Addr} {o : Obj} {xs : List V} (e : H a = some (.frz o (.lst xs))) : TyOf K H (.ref a) (.type "list")
  | tup {a : Addr} {xs : List V} (e : H a = some (.tup xs)) : TyOf K H (.ref a) (.type "tuple")
  | dK {a : Addr} {kvs : List (Key × V)} (e : H a = some (.dK kvs)) : TyOf K H (.ref a) (.type "dict")
  | dT {a : Addr} {kvs : List (List Key × V)} (e : H a = some (.dT kvs)) : TyOf K H (.ref a) (.type "dict")
  | ins {a C dx : Addr} {fs : List (Str × V)} (e : H a = some (.ins C dx fs)) (cl : Cls K C) (ha : PySem.W.findIn K (.ref C) "__class__" = some (some (.builtin "object.__class__")))
      (hn : PySem.W.specialIn K (.builtin "object.__class__") "__get__" = some (some (.builtin "getset_descriptor.__get__"))) (htk : PySem.W.takesIn K (.builtin "object.__class__") = some true)
      (hm : PySem.W.mroIn K C (.type "object") = some true) : TyOf K H (.ref a) (.ref C)
end
end L2
namespace L2
open PySem PySem.Spec PyProof.Rows
structure Room (k : Nat) (A : Around) : Prop where
  hd : A.handled = none
  dp : A.depth + 3 * k + 5 < recursionLimit
  un : A.units + 16 * k + 200 < cLine
theorem Room.mono {j k : Nat} {A : Around} (r : Room k A) (h : j ≤ k) : Room j A := ⟨r.hd, by have := r.dp; trivial, by have := r.un; trivial⟩
theorem Room.deeper {k : Nat} {A : Around} (r : Room (k + 1) A) (env : Env) : Room k (A.deeper env) :=
  ⟨r.hd, by have := r.dp; show A.depth + 1 + 3 * k + 5 < _; trivial, by have := r.un; show A.units + 3 + 16 * k + 200 < _; trivial⟩
theorem Room.depth {k : Nat} {A : Around} (r : Room k A) : A.depth < recursionLimit := by have := r.dp; trivial
def tNil : TA := fun _ H Q => Q [] H
def tCons (ta : TE) (tr : TA) : TA := fun σ H Q => ta σ H fun x H1 => tr σ H1 fun xs H2 => Q (x :: xs) H2
section
variable {X : Cx} {e : Expr} {es : List Expr} {te : TE} {t : TA} {pos : Pos}
theorem pa_nil : PA X [] tNil := fun _ _ _ _ H Q I h => Calls.spliced_nil ⟨[], H, I, .nil, h⟩
theorem pa_cons (ha : PE X e te) (hr : PA X es t) (hs : starEach (e :: es) X.env = (false, eval e X.env) :: starEach es X.env := by rfl) : PA X (e :: es) (tCons te t) := by
  intro pos pins s σ H Q I h
  rw [hs]
  show wpAny _ _ (spliced ((false, eval e X.env) :: backTo pos (starEach es X.env))) _ _ s
  refine Calls.spliced_cons (thn (ha pins s σ H _ I h) fun u s1 ⟨x, H1, I1, r1, q1⟩ => ?_)
  exact thn (hr pos pins s1 σ H1 _ I1 q1) fun us s2 ⟨xs, H2, I2, r2, q2⟩ => ⟨x :: xs, H2, I2, .cons r1 r2, q2⟩
def tTup (t : TA) : TE := fun σ H Q => t σ H fun xs H1 => xs.length ≤ sizeLine ∧ ∀ p, H1 p = none → Q (.ref p) (upd H1 p (.tup xs))
def tLst (t : TA) : TE := fun σ H Q => t σ H fun xs H1 => xs.length ≤ sizeLine ∧ ∀ p, H1 p = none → Q (.ref p) (upd H1 p (.lst xs))
theorem pe_tup {x1} (h : PA X es t) : PE X (.Tuple es x1 pos) (tTup t) := by
  intro pins s σ H Q I hq
  refine wpAny_Tuple_spliced (thn (h pos pins s σ H _ I hq) fun us s1 ⟨xs, H1, I1, r, z, q⟩ => ⟨by rw [← r.length]; exact z, ?_⟩)
  have hf : H1 s1.heap.objs.size = none := I1.hok.fresh (Nat.le_refl _)
  refine ⟨.ref s1.heap.objs.size, upd H1 s1.heap.objs.size (.tup xs), I1.laid (t' := s1.toks) (fun b u e => Heap.get?_push_of_some _ e) (Nat.le_refl _) ?_, rfl, q _ hf⟩
  exact ⟨z, us, r, ⟨_, Heap.get?_push_size _ rfl, rfl, _, rfl⟩⟩
theorem pe_lst (h : PA X es t) : PE X (.List es pos) (tLst t) := by
  intro pins s σ H Q I hq
  refine wpAny_List_spliced (thn (h pos pins s σ H _ I hq) fun us s1 ⟨xs, H1, I1, r, z, q⟩ => ⟨by rw [← r.length]; exact z, ?_⟩)
  have hf : H1 s1.heap.objs.size = none := I1.hok.fresh (Nat.le_refl _)
  refine ⟨.ref s1.heap.objs.size, upd H1 s1.heap.objs.size (.lst xs), I1.laid (t' := s1.toks) (fun b u e => Heap.get?_push_of_some _ e) (Nat.le_refl _) ?_, rfl, q _ hf⟩
  exact ⟨z, us, 0, r, Heap.get?_push_size _ rfl⟩
end
abbrev Sp := List V → Hp → VK → XK → Prop
abbrev CXT := List Env → Hp → Shared → XK → Value → Shared → Prop
structure Env0 (P : Program) (w : World) (K : PySem.W.Frag) (mg : Str → Option Value) (base : Heap) (A : Around) (outer : List Env) (s : Shared) (H : Hp) : Prop where
  frames : A.frames = some outer
  mod : Mod K mg base
  bs : ∀ b o, base.get? b = some o → s.heap.get? b = some o ∧ H b = none
  bsz : base.objs.size ≤ s.heap.objs.size
  funs : s.heap.FunFrames base outer
  frf : ∀ b ∈ frs outer, H b = none
  hok : HOk P w H s.heap
  bare : AllBare s.gens
def CE (outer : List Env) (P : Program) (w : World) (H : Hp) (s : Shared) (Q : VK) (u : Value) (s' : Shared) : Prop :=
  ∃ v H', s'.os = s.os ∧ AllBare s'.gens ∧ Un (frs outer) [] H H' s.heap s'.heap ∧ HOk P w H' s'.heap ∧ RelV v u ∧ Q v H'
def CR (CX : CXT) (outer : List Env) (P : Program) (w : World) (H : Hp) (s : Shared) (Q : VK) (E : XK) (r : Result) (s' : Shared) : Prop :=
  match r with
  | .ok (.ret u) => CE outer P w H s Q u s'
  | .ok _ => False
  | .error e => CX outer H s E e s'
structure FnOk (P : Program) (w : World) (K : PySem.W.Frag) (mg : Str → Option Value) (base : Heap) (CX : CXT) (k : Nat) (f : Addr) (fd : FuncData) (ps : List Str) (sp : Sp) : Prop where
  len : ∀ vs H Q E, sp vs H Q E → vs.length = ps.length
  run : ∀ (A : Around) (outer : List Env) (s : Shared) (H : Hp) (args : Args) (us : List Value) (vs : List V) (Q : VK) (E : XK), Room k A → Env0 P w K mg base A outer s H → BindsTo s fd args (ps.zip us) → Vals vs us → sp vs H Q E →
    codeAny (model P w) A (.call (.ref f) args) (CR CX outer P w H s Q E) s
section
variable {X : Cx} {pins : List (Addr × Obj)} {σ : St} {H : Hp} {s s' : Shared}
theorem Inv.env0 (I : Inv X pins σ H s) : Env0 X.prog X.w X.K X.mg X.base X.A X.stack s H :=
  ⟨I.ok.frames, I.ok.mod, I.bs, Nat.le_trans I.ok.bsz I.sz, I.stack, I.stkFree, I.hok, I.bare⟩
theorem Inv.after {Q : VK} {u : Value} (I : Inv X pins σ H s) (h : CE X.stack X.prog X.w H s Q u s') : EP X pins σ Q u s' := by
  obtain ⟨v, H', os, bare, un, hok, r, q⟩ := h
  obtain ⟨hh, g, d, t, os'⟩ := s'
  obtain rfl : os' = s.os := os
  exact ⟨v, H', I.call (h' := hh) (g' := g) (d' := d) (t' := t) (ch := []) un hok bare (fun b z => absurd z (by simp)), r, q⟩
end
def tCall (sp : Sp) (dvs : List V) (E : XK) (t : TA) : TE := fun σ H Q => t σ H fun vs H1 => sp (vs ++ dvs) H1 Q E
def Binds (K : PySem.W.Frag) (fd : FuncData) (ps : List Str) (ds : List Value) : Prop :=
  ∀ (s : Shared) (us : List Value), K.In s.heap → (us ++ ds).length = ps.length → BindsTo s fd ⟨us, []⟩ (ps.zip (us ++ ds))
theorem Binds.all {K : PySem.W.Frag} {fd : FuncData} {ps : List Str} (h : ∀ us : List Value, us.length = ps.length → bindArgs fd ⟨us, []⟩ = pure (ps.zip us)) : Binds K fd ps [] := fun s us _ hl => by
  rw [List.append_nil] at hl ⊢
  exact .of_eq (h us hl)
def Passes (CX : CXT) (X : Cx) (E : XK) : Prop := ∀ (pins : List (Addr × Obj)) (σ : St) (H : Hp) (s : Shared) (e : Value) (s' : Shared), Inv X pins σ H s → CX X.stack H s E e s' → X.xe e s'
section
variable {X : Cx} {CX : CXT} {k : Nat} {f C : Addr} {fd : FuncData} {ps : List Str} {sp : Sp} {dvs : List V} {ds : List Value} {E : XK} {x m : Str} {p pos apos : Pos} {e o : Expr} {es : List Expr} {ta : TE} {t : TA}
theorem run_fn {pins : List (Addr × Obj)} {σ : St} {H : Hp} {s : Shared} {Q : VK} {us : List Value} {vs : List V} (F : FnOk X.prog X.w X.K X.mg X.base CX k f fd ps sp) (hr : Room k X.A) (hb : Binds X.K fd ps ds) (hd : Vals dvs ds) (hx : Passes CX X E)
    (I : Inv X pins σ H s) (r : Vals vs us) (h : sp (vs ++ dvs) H Q E) : wpAny (model X.prog X.w) X.A (call (.ref f) us) (EP X pins σ Q) X.xe s := by
  have r2 : Vals (vs ++ dvs) (us ++ ds) := r.append hd
  have hl : (us ++ ds).length = ps.length := by rw [← r2.length]; exact F.len _ _ _ _ h
  refine wpAny_call (codeAny_mono (F.run X.A X.stack s H ⟨us, []⟩ (us ++ ds) (vs ++ dvs) Q E hr I.env0 (hb s us I.kIn hl) r2 h) fun r s' hq => ?_)
  cases r with
  | error e => exact hx pins σ H s e s' I hq
  | ok fl =>
    cases fl with
    | ret u => exact I.after hq
    | next => exact False.elim hq
    | brk => exact False.elim hq
    | cont => exact False.elim hq
theorem pe_call (F : FnOk X.prog X.w X.K X.mg X.base CX k f fd ps sp) (hr : Room k X.A) (hg : Gl X x) (hm : X.mg x = some (.ref f)) (hk : PySem.W.keepIn X.K (.ref f) = true) (hb : Binds X.K fd ps ds) (hd : Vals dvs ds) (hx : Passes CX X E)
    (ha : PA X (e :: es) t) (hdb : (x == ("__debug__" : Str)) = false := by decide) (he : starEach (e :: es) X.env = (false, eval e X.env) :: starEach es X.env := by rfl) (hpl : (backTo pos (starEach es X.env)).any (·.1) = false := by rfl) :
    PE X (.Call (.Name x p) (e :: es) [] pos) (tCall sp dvs E t) := by
  intro pins s σ H Q I h
  refine wpAny_Call_Name_kw (ld_glob I hg hm ?_ hdb)
  refine PySem.W.callWith_K (h₀ := X.base) I.ok.mod.kin hk (thn (ha pos pins s σ H _ I h) fun us s1 ⟨vs, H1, I1, r, q⟩ => ⟨I1.kIn, ?_⟩) he hpl
  exact run_fn F hr hb hd hx I1 r q
structure Mk (K : PySem.W.Frag) (C f : Addr) : Prop where
  makes : PySem.W.makesIn K C = true
  init : PySem.W.findIn K (.ref C) "__init__" = some (some (.ref f))
  fn : PySem.W.isFn K (.ref f) = true
  kp : PySem.W.keepIn K (.ref C) = true
end
section
variable {X : Cx} {CX : CXT} {k : Nat} {f C : Addr} {fd : FuncData} {ps ks : List Str} {sp : Sp} {E : XK} {x m : Str} {p pos apos kpos : Pos} {e o : Expr} {es : List Expr} {kws : List Keyword} {te ta : TE} {t tk : TA} {nm : Option Str}
structure KBinds (K : PySem.W.Frag) (fd : FuncData) (ps ks : List Str) (g : List Value → List Value → List Value) (gV : List V → List V → List V) : Prop where
  to : ∀ (s : Shared) (us ws : List Value), K.In s.heap → (g us ws).length = ps.length → BindsTo s fd ⟨us, ks.zip ws⟩ (ps.zip (g us ws))
  rel : ∀ {vs : List V} {us : List Value} {zs : List V} {ws : List Value}, Vals vs us → Vals zs ws → Vals (gV vs zs) (g us ws)
variable {g : List Value → List Value → List Value} {gV : List V → List V → List V}
end
structure FnScope (N P : List Str) (sc : Scope) : Prop where
  kind : sc.kind = .function
  co : sc.isCoroutine = false
  gen : sc.isGenerator = false
  nd : N.Nodup
  pre : N.take P.length = P
  par : ∀ x ∈ P, sc.names.lookup x = some .local ∨ sc.names.lookup x = some .cell
  nofree : ∀ y ∈ sc.names, y.2 ≠ .free
theorem bindL_out {kindOf : Str → Option NameKind} {x : Str} : ∀ {binds : List (Str × Value)} {m : Str → Option Value}, (∀ v, (x, v) ∉ binds) → bindL kindOf binds m x = m x
  | [], _, _ => rfl
  | (n, v) :: r, m, h => by
    unfold bindL
    rw [bindL_out fun w hw => h w (List.mem_cons_of_mem _ hw)]
    split
    · have : x ≠ n := by rintro rfl; exact h v List.mem_cons_self
      simp [this]
    · rfl
theorem bindC_out {kindOf : Str → Option NameKind} {x : Str} : ∀ {binds : List (Str × Value)} {m : Str → Option Value}, (∀ v, (x, v) ∉ binds) → bindC kindOf binds m x = m x
  | [], _, _ => rfl
  | (n, v) :: r, m, h => by
    unfold bindC
    rw [bindC_out fun w hw => h w (List.mem_cons_of_mem _ hw)]
    split
    · rfl
    · have : x ≠ n := by rintro rfl; exact h v List.mem_cons_self
      simp [this]
theorem bindL_get {kindOf : Str → Option NameKind} {x : Str} {v : Value} : ∀ {P : List Str} {vs : List Value} {i : Nat} {m : Str → Option Value}, P.Nodup → P[i]? = some x → vs[i]? = some v → kindOf x = some .local →
    bindL kindOf (P.zip vs) m x = some v
  | [], _, _, _, _, h, _, _ => by simp at h
  | _ :: _, [], _, _, _, _, h, _ => by simp at h
  | p :: P, w :: vs, 0, m, nd, h1, h2, hk => by
    simp at h1 h2; subst h1; subst h2
    show bindL kindOf ((p, w) :: P.zip vs) m p = _
    unfold bindL
    rw [bindL_out fun v hv => (List.nodup_cons.mp nd).1 (List.of_mem_zip hv).1, if_pos hk]
    simp
  | p :: P, w :: vs, i + 1, m, nd, h1, h2, hk => by
    show bindL kindOf ((p, w) :: P.zip vs) m x = _
    unfold bindL
    exact bindL_get (i := i) (List.nodup_cons.mp nd).2 (by simpa using h1) (by simpa using h2) hk
theorem bindC_get {kindOf : Str → Option NameKind} {x : Str} {v : Value} : ∀ {P : List Str} {vs : List Value} {i : Nat} {m : Str → Option Value}, P.Nodup → P[i]? = some x → vs[i]? = some v → kindOf x ≠ some .local →
    bindC kindOf (P.zip vs) m x = some v
  | [], _, _, _, _, h, _, _ => by simp at h
  | _ :: _, [], _, _, _, _, h, _ => by simp at h
  | p :: P, w :: vs, 0, m, nd, h1, h2, hk => by
    simp at h1 h2; subst h1; subst h2
    show bindC kindOf ((p, w) :: P.zip vs) m p = _
    unfold bindC
    rw [bindC_out fun v hv => (List.nodup_cons.mp nd).1 (List.of_mem_zip hv).1, if_neg hk]
    simp
  | p :: P, w :: vs, i + 1, m, nd, h1, h2, hk => by
    show bindC kindOf ((p, w) :: P.zip vs) m x = _
    unfold bindC
    exact bindC_get (i := i) (List.nodup_cons.mp nd).2 (by simpa using h1) (by simpa using h2) hk
def start (N : List Str) (vs : List V) : St := vs.map some ++ List.replicate (N.length - vs.length) none
def cxOf (CX : CXT) (P : Program) (w : World) (K : PySem.W.Frag) (mg : Str → Option Value) (base : Heap) (N : List Str) (qual : Str) (scope : Scope) (f : Addr) (cd : Value) (A : Around) (outer : List Env) (s : Shared) (H : Hp) (E : XK) : Cx where
  prog := P
  w := w
  K := K
  mg := mg
  base := base
  A := A.deeper (envOfC qual scope s.heap.objs.size f cd)
  N := N
  s_0 := s
  H_0 := H
  env := envOfC qual scope s.heap.objs.size f cd
  outer := outer
  stack := envOfC qual scope s.heap.objs.size f cd :: outer
  ex := []
  calm := true
  fn := fun _ => true
  pn := []
  xe := fun e s' => wpAny (model P w) (A.deeper (envOfC qual scope s.heap.objs.size f cd)) (leaving (envOfC qual scope s.heap.objs.size f cd) e) (fun _ s'' => CX outer H s E e s'') (fun e' s'' => CX outer H s E e' s'') s'
theorem cell_has {sc : Scope} {n : Nat} {x : Str} (h : sc.names.lookup x = some .cell) : ∃ c, (cellsFrom n sc.names []).lookup x = some c := by
  have q := PySem.W.cellsFrom_some sc.names n [] (.inl h)
  exact Option.isSome_iff_exists.mp q
theorem inv_start {CX : CXT} {P : Program} {w : World} {K : PySem.W.Frag} {mg : Str → Option Value} {base : Heap} {N ps : List Str} {qual : Str} {scope : Scope} {f : Addr} {cd : Value} {A : Around} {outer : List Env} {s s1 : Shared} {H : Hp} {E : XK} {us : List Value} {vs : List V}
    (S : FnScope N ps scope) (hd : A.handled = none) (e0 : Env0 P w K mg base A outer s H) (hl : vs.length = ps.length) (r : Vals vs us)
    (x : InCallC s s.heap.objs.size (bindL (envOfC qual scope s.heap.objs.size f cd).kindOf (ps.zip us) fun _ => none) (cellsFrom (s.heap.objs.size + 1) scope.names []) (bindC (envOfC qual scope s.heap.objs.size f cd).kindOf (ps.zip us) fun _ => none) s1) :
    Inv (cxOf CX P w K mg base N qual scope f cd A outer s H E) [] (start N vs) H s1 := by
  have hpl : ps.length ≤ N.length := by have := congrArg List.length S.pre; rw [List.length_take] at this; trivial
  obtain ⟨h1, tk, rfl, hk⟩ := x.done
  have noA : ∀ b : Addr, b ∉ (cxOf CX P w K mg base N qual scope f cd A outer s H E).ex := fun b z => absurd (show b ∈ ([] : List Addr) from z) (by simp)
  refine ⟨⟨e0.mod, S.kind, rfl, rfl, Nat.le_refl _, fun y z c h1 h2 => ?_, fun y hy => ?_, fun y c _ h => ?_, fun _ => hd, Around.frames_deeper e0.frames, .inr ⟨rfl, rfl⟩, fun b z => absurd z (noA b), e0.bs, e0.bsz, fun b _ _ => noA b, fun b z => absurd z (noA b), e0.funs, e0.frf⟩,
    rfl, e0.bare, Un.kept hk, ⟨_, x.toInCall.ns, fun i y v h1 h2 h3 => ?_⟩, fun y c h => ⟨_, x.cell y c h⟩, e0.hok.fresh (Nat.le_refl _), fun y c h => ?_, fun p hp => absurd (show p ∈ ([] : List (Addr × Obj)) from hp) (by simp), e0.hok.kept hk, ?_⟩
  · exact name_of_addr x.apart (PySem.mem_of_lookup h1) (PySem.mem_of_lookup h2)
  · have hy : scope.names.lookup y = some .cell ∨ scope.names.lookup y = some .free := hy
    rcases hy with hy | hy
    · exact cell_has hy
    · exact absurd rfl (S.nofree _ (PySem.mem_of_lookup hy))
  · exact Nat.le_of_lt (x.above y c (PySem.mem_of_lookup h))
  · have hi : i < vs.length := by
      unfold start at h2
      by_cases hi : i < vs.length
      · exact hi
      · rw [List.getElem?_append_right (by simpa using hi)] at h2
        rw [List.getElem?_replicate] at h2
        split at h2 <;> cases h2
    have ha : vs[i]? = some v := by
      unfold start at h2
      rw [List.getElem?_append_left (by simpa using hi), List.getElem?_map] at h2
      cases e : vs[i]? with
      | none => rw [e] at h2; cases h2
      | some a => rw [e] at h2; cases h2; rfl
    obtain ⟨u, hu, rv⟩ := r.get ha
    have hp : ps[i]? = some y := by
      rw [← S.pre, List.getElem?_take_of_lt (by trivial)]; exact h1
    have ndP : ps.Nodup := by rw [← S.pre]; exact S.nd.sublist (List.take_sublist _ _)
    refine ⟨u, rv, ?_⟩
    rcases S.par y (List.mem_of_getElem? hp) with k | k
    · exact .inl ⟨k, bindL_get ndP hp hu k⟩
    · obtain ⟨c, e⟩ := cell_has (n := s.heap.objs.size + 1) k
      refine .inr ⟨.inl k, c, e, ?_⟩
      have q := x.cell y c e
      rw [bindC_get ndP hp hu (by show scope.names.lookup y ≠ _; rw [k]; decide)] at q
      exact q
  · exact e0.hok.fresh (Nat.le_of_lt (x.above y c (PySem.mem_of_lookup h)))
  · unfold start
    show _ = N.length
    rw [List.length_append, List.length_map, List.length_replicate]
    trivial
theorem fn_of {CX : CXT} {P : Program} {w : World} {K : PySem.W.Frag} {mg : Str → Option Value} {base : Heap} {k : Nat} {f : Addr} {name qual : Str} {params : Arguments} {body : List Stmt} {scope : Scope} {dV kV doc pm cdv ct oc : Value} {an od : Option Addr}
    {osl : Array (Option Value)} {N ps : List Str} {sp : Sp} (lk : K.lookup f = some ⟨oc, od, .func (PySem.W.fnOf name qual params body scope dV kV doc pm an cdv ct), osl⟩) (hcd : PySem.W.codeIn K cdv qual = true) (S : FnScope N ps scope)
    (len : ∀ vs H Q E, sp vs H Q E → vs.length = ps.length)
    (hbody : ∀ (A : Around) (outer : List Env) (s : Shared) (H : Hp) (vs : List V) (Q : VK) (E : XK), Room k (A.deeper (envOfC qual scope s.heap.objs.size f cdv)) → sp vs H Q E →
      ∃ t, PSs (cxOf CX P w K mg base N qual scope f cdv A outer s H E) body t ∧ t { nx := fun _ H' => Q .non H', rt := Q } (start N vs) H) :
    FnOk P w K mg base CX (k + 1) f (PySem.W.fnOf name qual params body scope dV kV doc pm an cdv ct) ps sp := by
  refine ⟨len, fun A outer s H args us vs Q E hr e0 hb r hsp => ?_⟩
  have hl := len _ _ _ _ hsp
  have KX : K.In s.heap := e0.mod.kin.keeps fun b o e => (e0.bs b o e).1
  have lim : s.heap.NoLimit := e0.mod.nolimit.keeps fun b o e => (e0.bs b o e).1
  have hkind : ∀ y ∈ ps.zip us, scope.names.lookup y.1 = some .local ∨ (scope.names.lookup y.1 = some .cell ∧ ((cellsFrom (s.heap.objs.size + 1) scope.names []).lookup y.1).isSome = true) := fun ⟨n, v⟩ hy => by
    rcases S.par n (List.of_mem_zip hy).1 with q | q
    · exact .inl q
    · exact .inr ⟨q, PySem.W.cellsFrom_some _ _ _ (.inl q)⟩
  refine codeAny_call_function hr.depth (KX _ _ lk) rfl S.co S.gen rfl (PySem.W.codeRec_of KX hcd) (hb _ _ _ _ ?_)
  refine wpAny_newFunctionEnv_cells S.kind hkind fun env he s1 x => ?_
  subst he
  refine ⟨lim.keeps x.toInCall.keep, codeAny_func ?_⟩
  obtain ⟨t, ht, hq⟩ := hbody A outer s H vs Q E (hr.deeper _) hsp
  have I : Inv (cxOf CX P w K mg base N qual scope f cdv A outer s H E) [] (start N vs) H s1 := inv_start S hr.hd e0 hl r x
  refine wpAny_mono (ht [] s1 (start N vs) H _ I hq) (fun fl s' hs => ?_) fun e s' hs => hs
  have fin : ∀ {σ' : St} {H' : Hp} {v : V} {u : Value}, Inv (cxOf CX P w K mg base N qual scope f cdv A outer s H E) [] σ' H' s' → RelV v u → Q v H' → CE outer P w H s Q u s' :=
    fun {σ' H' v u} J rv q => ⟨v, H', J.os, J.bare, J.base, J.hok, rv, q⟩
  cases fl with
  | ret u =>
    obtain ⟨v, σ', H', J, rv, q⟩ := hs
    exact fin J rv q
  | next =>
    obtain ⟨σ', H', J, q⟩ := hs
    exact fin (v := V.non) (u := Value.none) J rfl q
  | brk =>
    obtain ⟨_, _, _, q⟩ := hs
    exact False.elim q
  | cont =>
    obtain ⟨_, _, _, q⟩ := hs
    exact False.elim q
end L2
namespace L2
open PySem PySem.Spec PyProof.Rows
section
variable {X : Cx} {x : Str} {p pos : Pos} {e : Expr} {es : List Expr} {t : TA} {id T : String} {r : List V → Hp → VK → Prop}
def tCB (r : List V → Hp → VK → Prop) (t : TA) : TE := fun σ H Q => t σ H fun vs H1 => r vs H1 Q
theorem pe_callB (hc : CallR X (.builtin id) r) (hg : Gl X x) (hm : X.mg x = none) (hv : bootBuiltins x = some (.builtin id)) (ha : PA X (e :: es) t) (hn : x ≠ "__name__" := by decide) (hdb : (x == ("__debug__" : Str)) = false := by decide)
    (he : starEach (e :: es) X.env = (false, eval e X.env) :: starEach es X.env := by rfl) (hpl : (backTo pos (starEach es X.env)).any (·.1) = false := by rfl) : PE X (.Call (.Name x p) (e :: es) [] pos) (tCB r t) := by
  intro pins s σ H Q I h
  refine wpAny_Call_Name_kw (ld_blt I hg hm hv ?_ hn hdb)
  exact PyProof.Rows.callWith_builtin1 (thn (ha pos pins s σ H _ I h) fun us s1 ⟨vs, H1, I1, r1, q1⟩ => hc pins s1 σ H1 vs us Q I1 r1 q1) he hpl
theorem pe_callTy (hc : CallR X (.type T) r) (hg : Gl X x) (hm : X.mg x = none) (hv : bootBuiltins x = some (.type T)) (ha : PA X (e :: es) t) (hn : x ≠ "__name__" := by decide) (hdb : (x == ("__debug__" : Str)) = false := by decide)
    (he : starEach (e :: es) X.env = (false, eval e X.env) :: starEach es X.env := by rfl) (hpl : (backTo pos (starEach es X.env)).any (·.1) = false := by rfl) : PE X (.Call (.Name x p) (e :: es) [] pos) (tCB r t) := by
  intro pins s σ H Q I h
  refine wpAny_Call_Name_kw (ld_blt I hg hm hv ?_ hn hdb)
  exact PyProof.Rows.callWith_type1 (thn (ha pos pins s σ H _ I h) fun us s1 ⟨vs, H1, I1, r1, q1⟩ => hc pins s1 σ H1 vs us Q I1 r1 q1) he hpl
end
end L2
namespace HT
open PySem PyProof.Rows
section
open PySem.SeqAt
open PySem.AutoSeq1 (wpAny_loadPart')
open PySem.MeetsSeq PySem.MeetsSeq2 PySem.MeetsSeq3
end
section
variable {prog : Program} {w : World} {A : Around} {E : Value → Shared → Prop} {s : Shared}
theorem cat_tup {t b : Addr} {vs ws : List Value} {Q : Value → Shared → Prop} (ht : IsTup s.heap t vs.toArray) (hb : IsTup s.heap b ws.toArray) (hv : vs ≠ [])
    (h1 : ws = [] → Q (.ref t) s) (h2 : ws ≠ [] → Q (.ref s.heap.objs.size) { s with heap := s.heap.push { cls := .type "tuple", data := .seq (vs ++ ws).toArray } })
    (hsz : vs.length + ws.length ≤ sizeLine) : wpAny (model prog w) A (binaryOp .Add (.ref t) (.ref b)) Q E s := by
  obtain ⟨⟨cls, dd, data, sl⟩, ho, hc, n, hd⟩ := id ht
  obtain ⟨⟨cls2, dd2, data2, sl2⟩, ho2, hc2, n2, hd2⟩ := id hb
  simp only at hc hd hc2 hd2
  subst hc hd hc2 hd2
  have e : vs.toArray ++ ws.toArray = (vs ++ ws).toArray := by simp
  by_cases hw : ws = []
  · exact concat_meets ⟨_, ho, rfl⟩ ⟨_, ho2, rfl⟩ noFill_tuple_add seq_tuple_add PySem.F.slot_tuple_add PySem.F.entry_tuple_add (PySem.F.args_tuple_add_2 _ _)
      (tuple_addW1 t b vs.toArray ws.toArray n n2 dd dd2 sl sl2 (by simpa using hv) (by simp [hw])) ⟨ho, ho2, h1 hw⟩
  · refine concat_meets ⟨_, ho, rfl⟩ ⟨_, ho2, rfl⟩ noFill_tuple_add seq_tuple_add PySem.F.slot_tuple_add PySem.F.entry_tuple_add (PySem.F.args_tuple_add_2 _ _)
      (tuple_addW2 t b vs.toArray ws.toArray n n2 dd dd2 sl sl2 (by simpa using hv) (by simpa using hw) (by rw [List.size_toArray, List.size_toArray]; exact hsz)) ⟨ho, ho2, ?_⟩
    rw [e]
    exact h2 hw
end
end HT
namespace L2
open PySem PySem.Spec PyProof.Rows
section
variable {X : Cx} {e : Expr} {te : TE} {lo hi : Option Expr} {tl th : TO} {pos p2 : Pos}
def rCatT (K : PySem.W.Frag) : R2 := fun x y H Q => ∃ a b xs ys, x = .ref a ∧ y = .ref b ∧ SqT K H a xs ∧ SqT K H b ys ∧ xs ≠ [] ∧ xs.length + ys.length ≤ sizeLine ∧
  (ys = [] → Q (.ref a) H) ∧ (ys ≠ [] → ∀ p, H p = none → Q (.ref p) (upd H p (.tup (xs ++ ys))))
theorem Vals.nil_iff {xs : List V} {us : List Value} (r : Vals xs us) : us = [] ↔ xs = [] := by
  cases r with
  | nil => simp
  | cons _ _ => simp
theorem op_catT : OpR X (binaryOp .Add) (rCatT X.K) := by
  intro pins s σ H x y v u Q I rx ry h
  obtain ⟨a, b, xs, ys, rfl, rfl, ha, hb, hx, hz, q1, q2⟩ := h
  cases rx
  cases ry
  obtain ⟨its, r1, p1, _⟩ := I.tuple ha
  obtain ⟨its2, r2, p2, _⟩ := I.tuple hb
  refine HT.cat_tup p1 p2 (fun z => hx (r1.nil_iff.mp z)) (fun z => ⟨.ref a, H, I, rfl, q1 (r2.nil_iff.mp z)⟩) (fun z => ?_) (by rw [← r1.length, ← r2.length]; exact hz)
  refine ⟨.ref s.heap.objs.size, _, I.laid (t' := s.toks) (o := .tup (xs ++ ys)) (fun b ob q => Heap.get?_push_of_some _ q) (Nat.le_refl _) ?_, rfl, q2 (fun w => z (r2.nil_iff.mpr w)) _ (I.hok.fresh (Nat.le_refl _))⟩
  exact ⟨by rw [List.length_append]; exact hz, _, r1.append r2, IsTup.new _ _⟩
end
end L2
namespace L2
open PySem PySem.Spec PyProof.Rows
def ixN (n : Nat) (i : Int) : Option Nat := if 0 ≤ i then (if i < n then some i.toNat else none) else if -(n : Int) ≤ i then some (i + n).toNat else none
def atI {α : Type} (xs : List α) (i : Int) : Option α := (ixN xs.length i).bind fun j => xs[j]?
theorem ixN_seq {n : Nat} {i : Int} {j : Nat} (h : ixN n i = some j) : seqIndex? i n = some j ∧ j < n ∧ -(n : Int) ≤ i ∧ i < n := by
  unfold ixN at h
  by_cases h0 : 0 ≤ i
  · rw [if_pos h0] at h
    by_cases h1 : i < n
    · rw [if_pos h1] at h
      have e : i.toNat = j := Option.some.inj h
      exact ⟨by rw [seqIndex_of h0 h1, e], by trivial, by trivial, h1⟩
    · rw [if_neg h1] at h; cases h
  · rw [if_neg h0] at h
    by_cases h1 : -(n : Int) ≤ i
    · rw [if_pos h1] at h
      have e : (i + n).toNat = j := Option.some.inj h
      exact ⟨by rw [seqIndex_neg (by trivial) h1, e], by trivial, h1, by trivial⟩
    · rw [if_neg h1] at h; cases h
theorem atI_get {α : Type} {xs : List α} {i : Int} {v : α} (h : atI xs i = some v) : ∃ j, seqIndex? i xs.length = some j ∧ xs[j]? = some v ∧ j < xs.length ∧ -(xs.length : Int) ≤ i ∧ i < xs.length := by
  unfold atI at h
  cases e : ixN xs.length i with
  | none => rw [e] at h; cases h
  | some j =>
    rw [e] at h
    obtain ⟨h1, h2, h3, h4⟩ := ixN_seq e
    exact ⟨j, h1, h, h2, h3, h4⟩
theorem atI_nat {α : Type} {xs : List α} {j : Nat} {v : α} (h : xs[j]? = some v) : atI xs (j : Int) = some v := by
  have hj : j < xs.length := (List.getElem?_eq_some_iff.mp h).1
  have e : ixN xs.length (j : Int) = some j := by
    unfold ixN
    rw [if_pos (by trivial), if_pos (by trivial)]; simp
  unfold atI; rw [e]; exact h
def PlainIx (b : Expr) : Prop := ∀ o i, subscripted b false o i = operate [o, i] (getItem o i)
def IxR (X : Cx) (r : R2) : Prop :=
  ∀ (value slice : Expr) (pins : List (Addr × Obj)) (s : Shared) (σ : St) (H : Hp) (x y : V) (v u : Value) (Q : VK), Inv X pins σ H s → RelV x v → RelV y u → r x y H Q →
    subscripted slice false v u = operate [v, u] (getItem v u) → wpAny (model X.prog X.w) X.A (subscriptTail value slice v u) (EP X pins σ Q) X.xe s
def MtR (X : Cx) (id : String) (r : V → List V → Hp → VK → Prop) : Prop :=
  ∀ (pins : List (Addr × Obj)) (s : Shared) (σ : St) (H : Hp) (x : V) (xs : List V) (v : Value) (us : List Value) (Q : VK), Inv X pins σ H s → RelV x v → Vals xs us → r x xs H Q →
    wpAny (model X.prog X.w) X.A (call (.builtin id) (v :: us)) (EP X pins σ Q) X.xe s
section
variable {X : Cx} {a b : Expr} {ta tb : TE} {pos : Pos}
theorem pe_ix {r : R2} (hr : IxR X r) (ha : PE X a ta) (hb : PE X b tb) (hs : PlainIx b) : PE X (.Subscript a b pos) (tOp r ta tb) := by
  intro pins s σ H Q I h
  exact Subscript_ (binT ha hb I h fun v u s2 x y H2 I2 rx ry q => hr a b pins s2 σ H2 x y v u Q I2 rx ry q (hs _ _))
def rIxL (K : PySem.W.Frag) : R2 := fun x y H Q => ∃ p xs i v, x = .ref p ∧ y = .int i ∧ SqL K H p xs ∧ atI xs i = some v ∧ Q v H
def rIxT (K : PySem.W.Frag) : R2 := fun x y H Q => ∃ p xs i v, x = .ref p ∧ y = .int i ∧ SqT K H p xs ∧ atI xs i = some v ∧ Q v H
theorem ix_list : IxR X (rIxL X.K) := by
  intro value slice pins s σ H x y v u Q I rx ry h hs
  obtain ⟨p, xs, i, z, rfl, rfl, hq, he, q⟩ := h
  cases rx
  obtain ⟨t, rfl⟩ := ry
  obtain ⟨its, r, pl, hz⟩ := I.list hq
  obtain ⟨j, h1, h2, h3, h4, h5⟩ := atI_get he
  obtain ⟨w, ew, rw'⟩ := r.get h2
  have hl := r.length
  have hn := line63
  have fin : EP X pins σ Q w s := ⟨z, H, I, rw', q⟩
  by_cases h0 : 0 ≤ i
  · have hj : i.toNat = j := by
      rw [seqIndex_of h0 h5] at h1
      exact Option.some.inj h1
    exact item_listR pl.isList h0 (by trivial) (by rw [hj]; simpa using ew) fin hs
  · have hj : (i + (its.toArray.size : Int)).toNat = j := by
      rw [seqIndex_neg (by trivial) h4] at h1
      rw [List.size_toArray, ← hl]
      exact Option.some.inj h1
    exact subscriptTail_builtinR (x := w) pl.isList.typeIs slot_list_getitem.lookup
      (wpAny_getItem_list_neg (Q := fun r s' => r = w ∧ EP X pins σ Q r s') pl.isList (by trivial) (by rw [List.size_toArray] <;> trivial) (by trivial) (by rw [hj]; simpa using ew) ⟨rfl, fin⟩) hs
theorem ix_tup : IxR X (rIxT X.K) := by
  intro value slice pins s σ H x y v u Q I rx ry h hs
  obtain ⟨p, xs, i, z, rfl, rfl, hq, he, q⟩ := h
  cases rx
  obtain ⟨t, rfl⟩ := ry
  obtain ⟨its, r, pl, hz⟩ := I.tuple hq
  obtain ⟨j, h1, h2, h3, h4, h5⟩ := atI_get he
  obtain ⟨w, ew, rw'⟩ := r.get h2
  have hl := r.length
  have hn := line63
  have fin : EP X pins σ Q w s := ⟨z, H, I, rw', q⟩
  exact subscriptTail_builtinR (x := w) pl.typeIs slot_tuple_getitem.lookup
    (getItem_tuple (j := j) (Q := fun r s' => r = w ∧ EP X pins σ Q r s') pl (by trivial) (by trivial) (by rw [List.size_toArray, ← hl]; exact h1) (by simpa using ew) ⟨rfl, fin⟩) hs
def flatV : V → Bool
  | .non => true
  | .bl _ => true
  | .int _ => true
  | .str _ => true
  | _ => false
def eqV : V → V → Bool
  | .non, .non => true
  | .bl a, .bl b => a == b
  | .bl a, .int b => (if a then 1 else 0) == b
  | .int a, .bl b => a == (if b then 1 else 0)
  | .int a, .int b => a == b
  | .str a, .str b => a == b
  | _, _ => false
theorem eqAt_V {A : Around} {s : Shared} {y x : V} {u v : Value} (ry : RelV y u) (rx : RelV x v) (fy : flatV y = true) (fx : flatV x = true) : SeqAt.EqAt A s u v (eqV y x) := by
  cases y with
  | non =>
    cases ry
    cases x with
    | non => cases rx; exact SeqAt.EqAt.same _
    | bl b => cases rx; exact SeqAt.EqAt.none_bool b
    | int b => obtain ⟨t, rfl⟩ := rx; exact SeqAt.EqAt.none_int b t
    | str b => obtain ⟨t, rfl⟩ := rx; exact SeqAt.EqAt.none_str b t
    | _ => exact absurd (show false = true from fx) Bool.false_ne_true
  | bl a =>
    cases ry
    cases x with
    | non => cases rx; exact SeqAt.EqAt.bool_none a
    | bl b => cases rx; exact SeqAt.EqAt.bool_bool a b
    | int b => obtain ⟨t, rfl⟩ := rx; exact SeqAt.EqAt.bool_int a b t
    | str b => obtain ⟨t, rfl⟩ := rx; exact SeqAt.EqAt.bool_str a b t
    | _ => exact absurd (show false = true from fx) Bool.false_ne_true
  | int a =>
    obtain ⟨t', rfl⟩ := ry
    cases x with
    | non => cases rx; exact SeqAt.EqAt.int_none a t'
    | bl b => cases rx; exact SeqAt.EqAt.int_bool a t' b
    | int b => obtain ⟨t, rfl⟩ := rx; exact SeqAt.EqAt.int_int a t' b t
    | str b => obtain ⟨t, rfl⟩ := rx; exact SeqAt.EqAt.int_str a t' b t
    | _ => exact absurd (show false = true from fx) Bool.false_ne_true
  | str a =>
    obtain ⟨t', rfl⟩ := ry
    cases x with
    | non => cases rx; exact SeqAt.EqAt.str_none a t'
    | bl b => cases rx; exact SeqAt.EqAt.str_bool a t' b
    | int b => obtain ⟨t, rfl⟩ := rx; exact SeqAt.EqAt.str_int a t' b t
    | str b => obtain ⟨t, rfl⟩ := rx; exact SeqAt.EqAt.str_str a t' b t
    | _ => exact absurd (show false = true from fx) Bool.false_ne_true
  | _ => exact absurd (show false = true from fy) Bool.false_ne_true
def eqU (x : V) (u : Value) : Bool := match u with
  | .none => eqV .non x
  | .bool b => eqV (.bl b) x
  | .int i _ => eqV (.int i) x
  | .str z _ => eqV (.str z) x
  | _ => false
theorem eqU_of {x y : V} {u : Value} (r : RelV y u) (f : flatV y = true) : eqU x u = eqV y x := by
  cases y with
  | non => cases r; rfl
  | bl b => cases r; rfl
  | int i => obtain ⟨t, rfl⟩ := r; rfl
  | str z => obtain ⟨t, rfl⟩ := r; rfl
  | _ => exact absurd (show false = true from f) Bool.false_ne_true
theorem any_eqU {x : V} : ∀ {xs : List V} {us : List Value}, Vals xs us → xs.all flatV = true → us.any (eqU x) = xs.any fun y => eqV y x
  | _, _, .nil, _ => rfl
  | y :: xs, u :: us, .cons r t, f => by
    rw [List.all_cons, Bool.and_eq_true] at f
    rw [List.any_cons, List.any_cons, eqU_of r f.1, any_eqU t f.2]
theorem mem_eqAt {A : Around} {s : Shared} {x : V} {v : Value} (rx : RelV x v) (fx : flatV x = true) : ∀ {xs : List V} {us : List Value}, Vals xs us → xs.all flatV = true → ∀ u ∈ us, SeqAt.EqAt A s u v (eqU x u)
  | _, _, .nil, _ => fun u hu => by cases hu
  | y :: xs, u :: us, .cons r t, f => fun u' hu => by
    rw [List.all_cons, Bool.and_eq_true] at f
    rcases List.mem_cons.mp hu with rfl | hu
    · rw [eqU_of r f.1]; exact eqAt_V r rx f.1 fx
    · exact mem_eqAt rx fx t f.2 u' hu
def inV (x : V) (xs : List V) : Bool := xs.any fun y => eqV y x
def rIn (K : PySem.W.Frag) (neg : Bool) : R2 := fun x y H Q => ∃ p xs, y = .ref p ∧ (SqL K H p xs ∨ SqT K H p xs) ∧ flatV x = true ∧ xs.all flatV = true ∧ Q (.bl (if neg then !inV x xs else inV x xs)) H
theorem op_in_seq : OpR X (compareOp .In) (rIn X.K false) := by
  intro pins s σ H x y v u Q I rx ry h
  obtain ⟨p, xs, rfl, hq, fx, fs, q⟩ := h
  cases ry
  rcases hq with hq | hq
  · obtain ⟨its, r, pl, hz⟩ := I.list hq
    refine SeqAt.in_listAt (eqU x) pl.isList (fun w hw => mem_eqAt rx fx r fs w (by simpa using hw)) ⟨.bl _, H, I, rfl, ?_⟩
    rw [show its.toArray.any (eqU x) = its.any (eqU x) by simp, any_eqU r fs]
    exact q
  · obtain ⟨its, r, pl, hz⟩ := I.tuple hq
    refine SeqAt.in_tupleAt (eqU x) pl (fun w hw => mem_eqAt rx fx r fs w (by simpa using hw)) ⟨.bl _, H, I, rfl, ?_⟩
    rw [show its.toArray.any (eqU x) = its.any (eqU x) by simp, any_eqU r fs]
    exact q
theorem call_len_seq : CallR X (.builtin "len") (fun xs H Q => ∃ p ys, xs = [.ref p] ∧ (SqL X.K H p ys ∨ SqT X.K H p ys) ∧ Q (.int ys.length) H) := by
  intro pins s σ H xs us Q I r h
  obtain ⟨p, ys, rfl, hq, q⟩ := h
  obtain ⟨u, rfl, rx⟩ := vals1 r
  cases rx
  have hn := line63
  rcases hq with hq | hq
  · obtain ⟨its, r', pl, hz⟩ := I.list hq
    have hlen := r'.length
    exact Calls.call_len_list pl.isList (by simp only [List.size_toArray] <;> trivial) ⟨.int ys.length, H, I.tok _, ⟨s.toks + 1, by rw [List.size_toArray, hlen]⟩, q⟩
  · obtain ⟨its, r', pl, hz⟩ := I.tuple hq
    have hlen := r'.length
    exact len_tuple pl (by simp only [List.size_toArray] <;> trivial) ⟨.int ys.length, H, I.tok _, ⟨s.toks + 1, by rw [List.size_toArray, hlen]⟩, q⟩
theorem call_list_of : CallR X (.type "list") (fun xs H Q => ∃ p ys, xs = [.ref p] ∧ (SqL X.K H p ys ∨ SqT X.K H p ys) ∧ ∀ l, H l = none → Q (.ref l) (upd H l (.lst ys))) := by
  intro pins s σ H xs us Q I r h
  obtain ⟨p, ys, rfl, hq, q⟩ := h
  obtain ⟨u, rfl, rx⟩ := vals1 r
  cases rx
  have fin : ∀ (its : List Value), Vals ys its → ys.length ≤ sizeLine → ∀ (h' : Heap) (c' : Nat), (∀ b o', s.heap.get? b = some o' → h'.get? b = some o') →
      h'.get? s.heap.objs.size = some { cls := .type "list", dict := none, data := .seq its.toArray c', slots := #[] } → EP X pins σ Q (.ref s.heap.objs.size) { s with heap := h' } := fun its r' hz h' c' kp e =>
    ⟨.ref s.heap.objs.size, _, I.laid (t' := s.toks) kp (Nat.le_refl _) (show ObjOk X.prog X.w _ h' _ (.lst ys) from ⟨hz, its, c', r', e⟩), rfl, q _ (I.hok.fresh (Nat.le_refl _))⟩
  rcases hq with hq | hq
  · obtain ⟨its, r', pl, hz⟩ := I.list hq
    have hlen := r'.length
    obtain ⟨o, ho, hc, n, hd⟩ := pl.isList
    exact call_list_seq p (.inl rfl) ho hc hd (fun h' c' kp e => fin its r' hz h' c' kp e) (by simp only [List.size_toArray] <;> trivial)
  · obtain ⟨its, r', pl, hz⟩ := I.tuple hq
    have hlen := r'.length
    obtain ⟨o, ho, hc, n, hd⟩ := pl
    exact call_list_seq p (.inr rfl) ho hc hd (fun h' c' kp e => fin its r' hz h' c' kp e) (by simp only [List.size_toArray] <;> trivial)
def tyV (K : PySem.W.Frag) (T : String) (x : V) (H : Hp) : Prop := match x with
  | .str _ => T = "str"
  | .int _ => T = "int"
  | .ref p => (T = "list" ∧ ∃ xs, SqL K H p xs) ∨ (T = "tuple" ∧ ∃ o, K.lookup p = some o ∧ o.cls = .type "tuple" ∧ o.dict = none) ∨
      (T = "dict" ∧ ((∃ kvs, H p = some (.dK kvs)) ∨ ∃ kvs, H p = some (.dT kvs))) ∨ (T = "set" ∧ ∃ S n, H p = some (.set S n))
  | _ => False
theorem tyV_is {pins : List (Addr × Obj)} {σ : St} {H : Hp} {s : Shared} {T : String} {x : V} {v : Value} (I : Inv X pins σ H s) (r : RelV x v) (ty : tyV X.K T x H) :
    s.TypeIs v T ∧ ∀ a, v = .ref a → ∃ ob, s.heap.get? a = some ob ∧ ob.dict = none := by
  cases x with
  | str z =>
    obtain ⟨t, rfl⟩ := r
    cases (show T = "str" from ty)
    exact ⟨typeIs_str s z t, fun _ e => nomatch e⟩
  | int i =>
    obtain ⟨t, rfl⟩ := r
    cases (show T = "int" from ty)
    exact ⟨typeIs_int s i t, fun _ e => nomatch e⟩
  | ref p =>
    cases r
    rcases ty with ⟨rfl, xs, hq⟩ | ⟨rfl, o, hk, hc, hd⟩ | ⟨rfl, hk⟩ | ⟨rfl, S, n, hk⟩
    · obtain ⟨its, _, pl, _⟩ := I.list hq
      refine ⟨pl.isList.typeIs, fun a e => ?_⟩
      cases e
      obtain ⟨o, n, e, c, hd, _⟩ := pl
      exact ⟨o, e, hd⟩
    · refine ⟨⟨o, I.kIn p o hk, hc⟩, fun a e => ?_⟩
      cases e
      exact ⟨o, I.kIn _ o hk, hd⟩
    · have z : ∃ o, s.heap.get? p = some o ∧ o.ExactDict := by
        rcases hk with ⟨kvs, hk⟩ | ⟨kvs, hk⟩
        · obtain ⟨_, _, _, _, o, _, _, e, ex, _⟩ := I.hok p _ hk
          exact ⟨o, e, ex⟩
        · obtain ⟨_, _, _, _, o, _, _, e, ex, _⟩ := I.hok p _ hk
          exact ⟨o, e, ex⟩
      obtain ⟨o, e, ex⟩ := z
      refine ⟨⟨o, e, ex.1⟩, fun a e2 => ?_⟩
      cases e2
      exact ⟨o, e, ex.2.1⟩
    · obtain ⟨o, _, _, _, e, ex, _⟩ := I.hok p _ hk
      refine ⟨⟨o, e, ex.1⟩, fun a e2 => ?_⟩
      cases e2
      exact ⟨o, e, ex.2.1⟩
  | _ => exact False.elim ty
def tBM (K : PySem.W.Frag) (T : String) (r : V → List V → Hp → VK → Prop) (to : TE) (t : TA) : TE := fun σ H Q => to σ H fun x H1 => tyV K T x H1 ∧ t σ H1 fun xs H2 => r x xs H2 Q
variable {o e : Expr} {es : List Expr} {to : TE} {t : TA} {name : Str} {apos cpos : Pos} {T id : String} {r : V → List V → Hp → VK → Prop}
theorem pe_bm (pa : PlainAttrs T) (slot : Slot T name id) (hty : typeOf (.builtin id) = pure (.type "method_descriptor")) (hm : MtR X id r) (ho : PE X o to) (ha : PA X (e :: es) t)
    (hbase : attributeBase o name X.env (eval o X.env) = eval o X.env := by rfl)
    (hfew : ((backTo cpos (starEach (e :: es) X.env)).all (fun x => !x.1) && (backToKw cpos (keywordEach [] X.env)).all (fun x => x.1.isSome)
      && decide ((e :: es).length + ([] : List Keyword).length + (if ([] : List Keyword).isEmpty then 0 else 1) < 30)) = true := by rfl)
    (hline : (apos.endLine == cpos.line) = true := by rfl) (hs : starEach (e :: es) X.env = (false, eval e X.env) :: starEach es X.env := by rfl) (hplain : (backTo cpos (starEach es X.env)).any (·.1) = false := by rfl) :
    PE X (.Call (.Attribute o name apos) (e :: es) [] cpos) (tBM X.K T r to t) := by
  intro pins s σ H Q I h
  refine wpAny_Call_method_late hbase hfew hline rfl (thn (ho pins s σ H _ I h) fun v s1 ⟨x, H1, I1, r1, ty, q1⟩ => ?_)
  obtain ⟨h1, h2⟩ := tyV_is I1 r1 ty
  refine ⟨T, id, pa, slot, hty, h1, h2, ?_⟩
  have hA := ha cpos pins s1 σ H1 _ I1 q1
  rw [hs] at hA ⊢
  refine Calls.callWith_builtin (by show (false || (backTo cpos (starEach es X.env)).any (·.1)) = false; rw [hplain] <;> rfl) (Calls.evalArgs_plain ?_)
  exact thn hA fun us s2 ⟨vs, H2, I2, r2, q2⟩ => hm pins s2 σ H2 x vs v us Q I2 r1 r2 q2
end
end L2
namespace L2
open PySem PySem.Spec PyProof.Rows
def MtM (X : Cx) (id : String) (r : V → List V → Hp → VK → Prop) : Prop :=
  ∀ (pins : List (Addr × Obj)) (s : Shared) (σ : St) (H : Hp) (x : V) (xs : List V) (v : Value) (us : List Value) (Q : VK), Inv X pins σ H s → RelV x v → Vals xs us → r x xs H Q →
    wpAny (model X.prog X.w) X.A (call (.builtin id) (v :: us)) (EP X pins σ Q) X.xe s
theorem Vals.one : ∀ {x : V} {us : List Value}, Vals [x] us → ∃ u, us = [u] ∧ RelV x u
  | _, _, .cons r .nil => ⟨_, rfl, r⟩
section
variable {X : Cx} {pins : List (Addr × Obj)} {σ : St} {H : Hp} {s : Shared} {l b : Addr} {xs ys zs : List V}
theorem Inv.lset {its its' : List Value} {n : Nat} {f : Array Value → Array Value} {t' : Nat} (I : Inv X pins σ H s) (hH : H l = some (.lst xs))
    (e : s.heap.get? l = some { cls := .type "list", data := .seq its.toArray n }) (hf : f its.toArray = its'.toArray) (hv : Vals ys its') (hz : ys.length ≤ sizeLine) :
    Inv X pins σ (upd H l (.lst ys)) { s with heap := s.heap.update l (Obj.mapSeq f), toks := t' } := by
  have q := PySem.IsL.update e f
  rw [hf] at q
  refine I.write (x := l) (e := l) (by rw [hH]; exact trivial) (.inl rfl) (fun b' u hb hu => (Heap.get?_update_other s.heap (Obj.mapSeq f) (Ne.symm hb)).trans hu) ⟨_, q⟩ ?_
  exact ⟨hz, its', _, hv, q⟩
theorem Inv.lnew {its : List Value} {t' : Nat} (I : Inv X pins σ H s) (hv : Vals ys its) (hz : ys.length ≤ sizeLine) :
    Inv X pins σ (upd H s.heap.objs.size (.lst ys)) { s with heap := s.heap.push { cls := .type "list", data := .seq its.toArray }, toks := t' } :=
  I.laid (fun _ _ q => Heap.get?_push_of_some _ q) (Nat.le_refl _) ⟨hz, its, 0, hv, Heap.get?_push_size _ rfl⟩
theorem Inv.fresh (I : Inv X pins σ H s) : H s.heap.objs.size = none := I.hok.fresh (Nat.le_refl _)
theorem Inv.lstM (I : Inv X pins σ H s) (hH : H l = some (.lst xs)) : xs.length ≤ sizeLine ∧ ∃ (its : List Value) (n : Nat), Vals xs its ∧ xs.length = its.length ∧ s.heap.get? l = some { cls := .type "list", data := .seq its.toArray n } := by
  obtain ⟨z, its, n, r, e⟩ := I.hok l _ hH
  exact ⟨z, its, n, r, r.length, e⟩
theorem notLongL {n : Nat} (h : n ≤ sizeLine) : Builtin.List.listTooLong n = false := by
  unfold Builtin.List.listTooLong
  exact decide_eq_false (by trivial)
end
section
variable {X : Cx}
def rAppend : V → List V → Hp → VK → Prop := fun x vs H Q => ∃ l xs y, x = .ref l ∧ vs = [y] ∧ H l = some (.lst xs) ∧ xs.length < sizeLine ∧ Q .non (upd H l (.lst (xs ++ [y])))
theorem mt_append : MtM X "list.append" rAppend := by
  intro pins s σ H x vs v us Q I rx rv h
  obtain ⟨l, xs, y, rfl, rfl, hH, hz, q⟩ := h
  cases rx
  obtain ⟨u, rfl, ru⟩ := rv.one
  obtain ⟨z, its, n, r, hl, e⟩ := I.lstM hH
  refine call_meets F.slot_list_append ⟨_, e, rfl⟩ F.entry_list_append (F.args_list_append_2 _ _) (PySem.list_append l its.toArray n u (by rw [List.size_toArray]; trivial)) ⟨e, ?_⟩
  refine ⟨.non, _, I.lset (its' := its ++ [u]) hH e (by simp) (r.append (.cons ru .nil)) ?_, rfl, q⟩
  rw [List.length_append, List.length_singleton]
  trivial
def rExtend : V → List V → Hp → VK → Prop := fun x vs H Q => ∃ l b xs zs, x = .ref l ∧ vs = [.ref b] ∧ H l = some (.lst xs) ∧ H b = some (.lst zs) ∧ xs.length + zs.length ≤ sizeLine ∧ Q .non (upd H l (.lst (xs ++ zs)))
theorem mt_extend : MtM X "list.extend" rExtend := by
  intro pins s σ H x vs v us Q I rx rv h
  obtain ⟨l, b, xs, zs, rfl, rfl, hH, hB, hz, q⟩ := h
  cases rx
  obtain ⟨u, rfl, ru⟩ := rv.one
  cases ru
  obtain ⟨z, its, n, r, hl, e⟩ := I.lstM hH
  obtain ⟨z2, its2, n2, r2, hl2, e2⟩ := I.lstM hB
  have hsz : its.toArray.size + its2.toArray.size ≤ sizeLine := by rw [List.size_toArray, List.size_toArray]; trivial
  have hlong : ¬ (!its.toArray.isEmpty && Builtin.List.listTooLong (its.toArray.size + its2.toArray.size)) = true := by
    rw [notLongL hsz, Bool.and_false]
    exact Bool.false_ne_true
  refine call_meets F.slot_list_extend ⟨_, e, rfl⟩ F.entry_list_extend (F.args_list_extend_2 _ _)
    (AutoSeq1.list_extend_list_list_0 l its.toArray n b its2.toArray n2 hlong (by rw [List.size_toArray]; trivial) (by trivial)) ⟨e, e2, ?_⟩
  refine ⟨.non, _, I.lset (its' := its ++ its2) hH e (by simp) (r.append r2) ?_, rfl, q⟩
  rw [List.length_append]
  trivial
def rCat : R2 := fun x y H Q => ∃ l b xs zs, x = .ref l ∧ y = .ref b ∧ H l = some (.lst xs) ∧ H b = some (.lst zs) ∧ xs.length + zs.length ≤ sizeLine ∧ ∀ p, H p = none → Q (.ref p) (upd H p (.lst (xs ++ zs)))
theorem op_cat : OpR X (binaryOp .Add) rCat := by
  intro pins s σ H x y v u Q I rx ry h
  obtain ⟨l, b, xs, zs, rfl, rfl, hH, hB, hz, q⟩ := h
  cases rx
  cases ry
  obtain ⟨z, its, n, r, hl, e⟩ := I.lstM hH
  obtain ⟨z2, its2, n2, r2, hl2, e2⟩ := I.lstM hB
  refine PySem.P.add_list e e2 ?_ (by rw [List.size_toArray, List.size_toArray]; trivial)
  have ea : its.toArray ++ its2.toArray = (its ++ its2).toArray := by simp
  rw [ea]
  exact ⟨.ref _, _, I.lnew (t' := s.toks) (r.append r2) (by rw [List.length_append]; trivial), rfl, q _ I.fresh⟩
end
section
variable {prog : Program} {w : World} {A : Around} {E : Value → Shared → Prop} {s : Shared}
end
section
variable {X : Cx}
end
end L2
namespace L2
open PySem PySem.Spec PyProof.Rows
theorem Vals.ints : ∀ {ns : List Int} {us : List Value}, Vals (ns.map V.int) us → IntsAre us ns
  | [], us, h => by
    rw [List.map_nil] at h
    cases h
    exact IntsAre.nil
  | n :: ns, us, h => by
    rw [List.map_cons] at h
    cases h with
    | cons r t =>
      obtain ⟨k, rfl⟩ := r
      exact IntsAre.cons n k (Vals.ints t)
theorem Vals.bls : ∀ {bs : List Bool} {us : List Value}, Vals (bs.map V.bl) us → us = bs.map Value.bool
  | [], us, h => by
    rw [List.map_nil] at h
    cases h
    rfl
  | b :: bs, us, h => by
    rw [List.map_cons] at h
    cases h with
    | cons r t =>
      cases r
      rw [Vals.bls t, List.map_cons]
theorem Vals.ref1 {a : Addr} {us : List Value} (r : Vals [V.ref a] us) : us = [Value.ref a] := by
  cases r with
  | cons r t =>
    cases t
    cases r
    rfl
section
variable {prog : Program} {w : World} {A : Around} {E : Value → Shared → Prop} {s : Shared} {l : Addr} {its : List Value} {ns : List Int} {Q : Value → Shared → Prop}
theorem sum_raw (hh : A.handled = none) (hl : s.heap.IsList l its.toArray) (hi : IntsAre its ns)
    (h : ∀ h' tk t', (∀ b o, s.heap.get? b = some o → h'.get? b = some o) → Q (.int ns.sum t') { s with heap := h', toks := tk }) : wpAny (model prog w) A (call (.builtin "sum") [.ref l]) Q E s := by
  obtain ⟨xs, e⟩ := hi.allInts.items
  have hn : numsOf (intItems xs).toList = ns := by rw [← e]; exact hi.numsOf
  rw [nums_intItems] at hn
  rw [e] at hl
  refine PySem.sum_intListG hh hl fun h' tk t' hk => ?_
  have := h h' tk t' hk
  rw [preSum_eq, List.take_of_length_le (by simp), hn]; exact this
end
section
variable {X : Cx}
def rSum (K : PySem.W.Frag) : List V → Hp → VK → Prop := fun vs H Q => ∃ (a : Addr) (ns : List Int), vs = [V.ref a] ∧ SqL K H a (ns.map V.int) ∧ Q (.int ns.sum) H
theorem cr_sum (hc : X.calm = true) : CallR X (.builtin "sum") (rSum X.K) := by
  intro pins s σ H vs us Q I r h
  obtain ⟨a, ns, rfl, hs, q⟩ := h
  obtain ⟨its, rv, hl, _⟩ := I.list hs
  rw [Vals.ref1 r]
  exact sum_raw (I.ok.hd hc) hl.isList rv.ints fun h' tk t' hk => ⟨.int _, H, I.kept hk, ⟨_, rfl⟩, q⟩
end
section
variable {X : Cx}
end
section
variable {X : Cx}
end
theorem iter_any {prog : Program} {w : World} {A : Around} {E : Value → Shared → Prop} {s : Shared} {l : Addr} {items : Array Value} {Q : Value → Shared → Prop} (hl : s.heap.IsList l items)
    (h : ∀ s₂ : Shared, s₂ = { s with heap := s.heap.push { cls := .type "list_iterator", data := .fields #[.ref l, .int 0 0] } } →
      (s₂.heap.IsListIter s.heap.objs.size l 0 ∧ s₂.heap.IsList l items) → l ≠ s.heap.objs.size → Q (.ref s.heap.objs.size) s₂) : wpAny (model prog w) A (pyIter (.ref l)) Q E s := by
  have hlt : l < s.heap.objs.size := by obtain ⟨_, e, _⟩ := hl; exact Heap.lt_size e
  exact wpAny_pyIter_list hl (h _ rfl ⟨⟨_, Heap.get?_push_size _ rfl, rfl, rfl⟩, hl.push _⟩ (Nat.ne_of_lt hlt))
theorem truth_bools {prog : Program} {w : World} {A : Around} {bs : List Bool} {its : List Value} (e : its = bs.map Value.bool) :
    TruthOf prog w A (fun i v => its.toArray[i]? = some v) (fun i => bs.getD i false) := fun i v s Q E hv hq => by
  have hv' : its[i]? = some v := by simpa using hv
  rw [e, List.getElem?_map] at hv'
  obtain ⟨b, hb, rfl⟩ := Option.map_eq_some_iff.mp hv'
  have hg : bs.getD i false = b := by rw [List.getD_eq_getElem?_getD, hb] <;> rfl
  have hq' : Q (bs.getD i false) s := hq
  rw [hg] at hq'
  exact wpAny_truthy_bool hq'
theorem any_range : ∀ bs : List Bool, (List.range bs.length).any (fun i => bs.getD i false) = bs.any id
  | [] => rfl
  | b :: bs => by
    rw [List.length_cons, List.range_succ_eq_map, List.any_cons, List.any_map, List.any_cons, ← any_range bs]
    all_goals rfl
section
variable {X : Cx}
def rAny (K : PySem.W.Frag) : List V → Hp → VK → Prop := fun vs H Q => ∃ (a : Addr) (bs : List Bool), vs = [V.ref a] ∧ SqL K H a (bs.map V.bl) ∧ Q (.bl (bs.any id)) H
theorem cr_any (hc : X.calm = true) : CallR X (.builtin "any") (rAny X.K) := by
  intro pins s σ H vs us Q I r h
  obtain ⟨a, bs, rfl, hs, q⟩ := h
  obtain ⟨its, rv, hl, _⟩ := I.list hs
  rw [Vals.ref1 r]
  have hb := rv.bls
  refine call_any_walk (iter_any hl.isList fun s₂ e2 st hne => ?_)
  subst e2
  refine ⟨_, _, _, _, _, _, _, rfl, Walks.list (A := X.A.in1) (I.ok.hd hc) _ a hne its.toArray, st, truth_bools hb, fun h' tk hk => ?_⟩
  refine ⟨.bl _, H, I.kept fun b o eo => hk b o (fun hmem => ?_) (Heap.get?_push_of_some _ eo), ?_, q⟩
  · rcases List.mem_cons.mp hmem with e1 | hmem
    · exact absurd (e1 ▸ Heap.lt_size eo) (Nat.lt_irrefl _)
    · cases hmem
  · show Value.bool _ = Value.bool _
    rw [← any_range, hb, List.size_toArray, List.length_map]
end
mutual
inductive Dp (K : PySem.W.Frag) (H : Hp) : V → PyData → Prop
  | non : Dp K H .non .none
  | bl (b : Bool) : Dp K H (.bl b) (.bool b)
  | int (i : Int) : Dp K H (.int i) (.int i)
  | str (x : Str) : Dp K H (.str x) (.str x)
  | lst {a : Addr} {xs : List V} {ds : List PyData} : SqL K H a xs → DpAll K H xs ds → Dp K H (.ref a) (.list ds)
  | tup {a : Addr} {xs : List V} {ds : List PyData} : SqT K H a xs → DpAll K H xs ds → Dp K H (.ref a) (.tuple ds)
inductive DpAll (K : PySem.W.Frag) (H : Hp) : List V → List PyData → Prop
  | nil : DpAll K H [] []
  | cons {v : V} {vs : List V} {d : PyData} {ds : List PyData} : Dp K H v d → DpAll K H vs ds → DpAll K H (v :: vs) (d :: ds)
end
section
variable {X : Cx} {pins : List (Addr × Obj)} {σ : St} {H : Hp} {s : Shared}
mutual
theorem Dp.reads (I : Inv X pins σ H s) : ∀ (d : PyData) (v : V) (u : Value), Dp X.K H v d → RelV v u → ∃ as, Reads s.heap u d as
  | .none, _, _, h, r => by
    cases h
    cases r
    exact ⟨_, Reads.none⟩
  | .bool b, _, _, h, r => by
    cases h
    cases r
    exact ⟨_, Reads.bool b⟩
  | .int i, _, _, h, r => by
    cases h
    obtain ⟨t, rfl⟩ := r
    exact ⟨_, Reads.int i t⟩
  | .str x, _, _, h, r => by
    cases h
    obtain ⟨t, rfl⟩ := r
    exact ⟨_, Reads.str x t⟩
  | .list ds, _, _, h, r => by
    cases h with
    | lst hs ha =>
      cases r
      obtain ⟨its, rv, ⟨o, n, ho, hc, _, hd⟩, _⟩ := I.list hs
      obtain ⟨as, hr⟩ := Dp.readsAll I ds _ its ha rv
      exact ⟨_, Reads.list ho hc hd hr⟩
  | .tuple ds, _, _, h, r => by
    cases h with
    | tup hs ha =>
      cases r
      obtain ⟨its, rv, ⟨o, ho, hc, n, hd⟩, _⟩ := I.tuple hs
      obtain ⟨as, hr⟩ := Dp.readsAll I ds _ its ha rv
      exact ⟨_, Reads.tuple ho hc hd hr⟩
  | .dict _, _, _, h, _ => by cases h
theorem Dp.readsAll (I : Inv X pins σ H s) : ∀ (ds : List PyData) (vs : List V) (us : List Value), DpAll X.K H vs ds → Vals vs us → ∃ as, ReadsAll s.heap us ds as
  | [], _, _, h, r => by
    cases h
    cases r
    exact ⟨_, ReadsAll.nil⟩
  | d :: ds, _, _, h, r => by
    cases h with
    | cons h1 h2 =>
      cases r with
      | cons r1 r2 =>
        obtain ⟨as, q1⟩ := Dp.reads I d _ _ h1 r1
        obtain ⟨bs, q2⟩ := Dp.readsAll I ds _ _ h2 r2
        exact ⟨_, ReadsAll.cons q1 q2⟩
end
end
section
variable {X : Cx}
end
end L2
namespace L2
open PySem PySem.Spec PyProof.Rows
abbrev CellAt (h : Heap) (c : Addr) (v : Option Value) : Prop := h.IsCell c v
def relS (scope sc : Scope) : Scope :=
  { scope with names := scope.names.map fun (n, k) => if (k == .free && sc.kind == .function && sc.names.lookup n == some .cell) then (n, .cell) else (n, k) }
def cloFrom (cells : List (Str × Addr)) : List (Str × NameKind) → List (Str × Addr) → List (Str × Addr)
  | [], acc => acc
  | (n, k) :: r, acc => if k == .free then cloFrom cells r ((n, (cells.lookup n).getD 0) :: acc) else cloFrom cells r acc
theorem closure_loop (env : Env) (f : Str × NameKind → List (Str × Addr) → Sem (ForInStep (List (Str × Addr))))
    (hf : ∀ n k c, f (n, k) c = if k == .free then (do let a ← cellOf env n; pure (.yield ((n, a) :: c))) else pure (.yield c)) :
    ∀ (names : List (Str × NameKind)) (acc : List (Str × Addr)), (∀ y ∈ names, y.2 = .free → ∃ c, env.cells.lookup y.1 = some c) → forIn names acc f = pure (cloFrom env.cells names acc)
  | [], acc, _ => by rw [List.forIn_nil]; rfl
  | (n, k) :: r, acc, h => by
    rw [List.forIn_cons, hf]
    have ih := fun acc => closure_loop env f hf r acc fun y hy => h y (List.mem_cons_of_mem _ hy)
    unfold cloFrom
    by_cases hk : (k == NameKind.free) = true
    · rw [if_pos hk, if_pos hk]
      obtain ⟨c, hc⟩ := h (n, k) List.mem_cons_self (by simpa using hk)
      have e : cellOf env n = pure c := by unfold cellOf; rw [hc]
      rw [e]
      have e2 : (env.cells.lookup n).getD 0 = c := by rw [hc]; rfl
      rw [e2]
      exact ih _
    · rw [if_neg hk, if_neg hk]
      exact ih _
theorem closure_ok {scope : Scope} {env : Env} (h : ∀ y ∈ scope.names, y.2 = .free → ∃ c, env.cells.lookup y.1 = some c) : closureFor scope env = pure (cloFrom env.cells scope.names []) := by
  simp only [closureFor]
  rw [closure_loop env _ (fun n k c => rfl) scope.names [] h]
  rfl
theorem mem_lookup {α : Type} : ∀ {l : List (Str × α)} {n : Str} {c : α}, (n, c) ∈ l → ∃ c', l.lookup n = some c'
  | (k, v) :: r, n, c, h => by
    rw [List.lookup_cons]
    cases hb : n == k with
    | true => exact ⟨_, rfl⟩
    | false =>
      rcases List.mem_cons.mp h with e | h
      · cases e; simp at hb
      · exact mem_lookup h
theorem cloFrom_mem {cells : List (Str × Addr)} : ∀ {names : List (Str × NameKind)} {acc : List (Str × Addr)} {n : Str} {c : Addr}, (n, c) ∈ cloFrom cells names acc → (n, c) ∈ acc ∨ ((n, .free) ∈ names ∧ c = (cells.lookup n).getD 0)
  | [], _, _, _, h => .inl h
  | (m, k) :: r, acc, n, c, h => by
    unfold cloFrom at h
    split at h
    · rename_i hk
      have hk : k = .free := by simpa using hk
      rcases cloFrom_mem h with h | ⟨h1, h2⟩
      · rcases List.mem_cons.mp h with e | h
        · cases e; exact .inr ⟨hk ▸ List.mem_cons_self, rfl⟩
        · exact .inl h
      · exact .inr ⟨List.mem_cons_of_mem _ h1, h2⟩
    · rcases cloFrom_mem h with h | ⟨h1, h2⟩
      · exact .inl h
      · exact .inr ⟨List.mem_cons_of_mem _ h1, h2⟩
theorem cloFrom_acc {cells : List (Str × Addr)} : ∀ {names : List (Str × NameKind)} {acc : List (Str × Addr)} {p : Str × Addr}, p ∈ acc → p ∈ cloFrom cells names acc
  | [], _, _, h => h
  | (m, k) :: r, acc, p, h => by
    unfold cloFrom
    split
    · exact cloFrom_acc (List.mem_cons_of_mem _ h)
    · exact cloFrom_acc h
theorem cloFrom_has {cells : List (Str × Addr)} : ∀ {names : List (Str × NameKind)} {acc : List (Str × Addr)} {n : Str}, (n, .free) ∈ names → (n, (cells.lookup n).getD 0) ∈ cloFrom cells names acc
  | (m, k) :: r, acc, n, h => by
    unfold cloFrom
    rcases List.mem_cons.mp h with e | h
    · cases e
      exact cloFrom_acc List.mem_cons_self
    · split
      · exact cloFrom_has h
      · exact cloFrom_has h
theorem cells_mem : ∀ {names : List (Str × NameKind)} {h : Heap} {acc : List (Str × Addr)} {x : Str} {c : Addr}, (x, c) ∈ cellsFrom h.objs.size names acc →
    (x, c) ∈ acc ∨ ((x, .cell) ∈ names ∧ h.objs.size ≤ c ∧ CellAt (pushCells h names) c none)
  | [], _, _, _, _, h => .inl h
  | (n, k) :: r, h, acc, x, c, hm => by
    unfold cellsFrom at hm
    unfold pushCells
    split at hm
    · rename_i hk
      rw [if_pos hk]
      have hk : k = .cell := by simpa using hk
      rw [← Heap.size_push h { cls := .type "cell", data := .cell none }] at hm
      rcases cells_mem hm with hm | ⟨h1, h2, h3⟩
      · rcases List.mem_cons.mp hm with e | hm
        · cases e
          exact .inr ⟨hk ▸ List.mem_cons_self, Nat.le_refl _, _, pushCells_keeps r _ _ _ (Heap.get?_push_size _ rfl), rfl⟩
        · exact .inl hm
      · rw [Heap.size_push] at h2
        exact .inr ⟨List.mem_cons_of_mem _ h1, Nat.le_of_succ_le h2, h3⟩
    · rename_i hk
      rw [if_neg hk]
      rcases cells_mem hm with hm | ⟨h1, h2, h3⟩
      · exact .inl hm
      · exact .inr ⟨List.mem_cons_of_mem _ h1, h2, h3⟩
theorem cells_acc : ∀ {names : List (Str × NameKind)} {n : Nat} {acc : List (Str × Addr)} {p : Str × Addr}, p ∈ acc → p ∈ cellsFrom n names acc
  | [], _, _, _, h => h
  | (m, k) :: r, n, acc, p, h => by
    unfold cellsFrom
    split
    · exact cells_acc (List.mem_cons_of_mem _ h)
    · exact cells_acc h
theorem cells_has : ∀ {names : List (Str × NameKind)} {n : Nat} {acc : List (Str × Addr)} {x : Str}, (x, .cell) ∈ names → ∃ c, (x, c) ∈ cellsFrom n names acc
  | (m, k) :: r, n, acc, x, h => by
    unfold cellsFrom
    rcases List.mem_cons.mp h with e | h
    · cases e
      exact ⟨n, cells_acc List.mem_cons_self⟩
    · split
      · exact cells_has h
      · exact cells_has h
theorem cells_inj : ∀ {names : List (Str × NameKind)} {h : Heap} {acc : List (Str × Addr)} {x y : Str} {c : Addr}, (∀ p ∈ acc, p.2 < h.objs.size) → (∀ x y c, (x, c) ∈ acc → (y, c) ∈ acc → x = y) →
    (x, c) ∈ cellsFrom h.objs.size names acc → (y, c) ∈ cellsFrom h.objs.size names acc → x = y
  | [], _, _, _, _, _, _, hi, h1, h2 => hi _ _ _ h1 h2
  | (n, k) :: r, h, acc, x, y, c, hl, hi, h1, h2 => by
    unfold cellsFrom at h1 h2
    split at h1
    · rename_i hk
      rw [if_pos hk] at h2
      rw [← Heap.size_push h { cls := .type "cell", data := .cell none }] at h1 h2
      refine cells_inj (h := h.push _) (fun p hp => ?_) (fun x y c a b => ?_) h1 h2
      · rw [Heap.size_push]
        rcases List.mem_cons.mp hp with rfl | hp
        · exact Nat.lt_succ_self _
        · exact Nat.lt_succ_of_lt (hl p hp)
      · rcases List.mem_cons.mp a with e | a <;> rcases List.mem_cons.mp b with e' | b
        · cases e; cases e'; rfl
        · cases e; exact absurd (hl _ b) (Nat.lt_irrefl _)
        · cases e'; exact absurd (hl _ a) (Nat.lt_irrefl _)
        · exact hi _ _ _ a b
    · rename_i hk
      rw [if_neg hk] at h2
      exact cells_inj hl hi h1 h2
theorem newEnv_comp {M : Model} {A : Around} {E : Value → Shared → Prop} {s : Shared} {scope : Scope} {globals : Addr} {closure : List (Str × Addr)} {qual : Str} {func : Option Addr} {code : Value} {around : Env} {builtins : Addr} {Q : Env → Shared → Prop}
    (h : Q (newEnv scope s.heap.objs.size globals (cellsFrom (s.heap.objs.size + 1) scope.names closure) qual func code (some around) builtins)
      { s with heap := pushCells (s.heap.push { cls := .type "dict", data := .dict #[] }) scope.names }) :
    wpAny M A (newFunctionEnv scope globals closure [] qual func code (some around) builtins) Q E s := by
  simp only [newFunctionEnv, Option.isSome_some, if_true]
  refine wpAny_bind (wpAny_alloc ?_)
  refine wpAny_bind (wpAny_layCells _ (fun n k c => rfl) scope.names closure _ _ ?_)
  rw [show ({ s with heap := s.heap.push { cls := .type "dict", data := .dict #[] } } : Shared).heap.objs.size = s.heap.objs.size + 1 from Heap.size_push ..]
  rw [List.forIn_nil]
  exact wpAny_bind (wpAny_pure (wpAny_pure h))
theorem lookup_relS {sc : Scope} : ∀ {names : List (Str × NameKind)} {x : Str} {k : NameKind},
    (names.map fun (n, k) => if (k == NameKind.free && sc.kind == .function && sc.names.lookup n == some .cell) then (n, NameKind.cell) else (n, k)).lookup x = some k →
    ∃ k', names.lookup x = some k' ∧ (k = k' ∨ (k' = .free ∧ k = .cell))
  | [], _, _, h => by simp at h
  | (n, k₀) :: r, x, k, h => by
    have ih := @lookup_relS sc r x k
    have h' : List.lookup x ((if (k₀ == NameKind.free && sc.kind == .function && sc.names.lookup n == some .cell) = true then (n, NameKind.cell) else (n, k₀)) :: (r.map _)) = some k := h
    cases hx : x == n with
    | true =>
      simp only [List.lookup_cons, hx]
      by_cases hc : (k₀ == NameKind.free && sc.kind == .function && sc.names.lookup n == some .cell) = true
      · rw [if_pos hc] at h'
        simp only [List.lookup_cons, hx] at h'
        cases h'
        simp only [Bool.and_eq_true, beq_iff_eq] at hc
        exact ⟨k₀, rfl, .inr ⟨hc.1.1, rfl⟩⟩
      · rw [if_neg hc] at h'
        simp only [List.lookup_cons, hx] at h'
        cases h'
        exact ⟨_, rfl, .inl rfl⟩
    | false =>
      simp only [List.lookup_cons, hx]
      by_cases hc : (k₀ == NameKind.free && sc.kind == .function && sc.names.lookup n == some .cell) = true
      · rw [if_pos hc] at h'
        simp only [List.lookup_cons, hx] at h'
        exact ih h'
      · rw [if_neg hc] at h'
        simp only [List.lookup_cons, hx] at h'
        exact ih h'
structure BlkOk (N : List Str) (sc scope : Scope) (own : List (Str × Nat)) : Prop where
  kind : scope.kind = .function
  uniq : ∀ y ∈ scope.names, scope.names.lookup y.1 = some y.2
  ix : ∀ p ∈ own, N[p.2]? = some p.1
  free : ∀ y ∈ scope.names, y.2 = .free → sc.names.lookup y.1 = some .cell ∨ sc.names.lookup y.1 = some .free
  own : ∀ y ∈ scope.names, y.2 = .local ∨ y.2 = .cell → y.1 ∈ own.map (·.1) ∨ y.1 ∉ N
def wipe (σ : St) : List Nat → St
  | [] => σ
  | v :: vs => (wipe σ vs).set v none
theorem wipe_length (σ : St) : ∀ vs : List Nat, (wipe σ vs).length = σ.length
  | [] => rfl
  | v :: vs => by unfold wipe; rw [List.length_set, wipe_length σ vs]
theorem wipe_some {σ : St} {i : Nat} {x : V} : ∀ {vs : List Nat}, (wipe σ vs)[i]? = some (some x) → σ[i]? = some (some x) ∧ i ∉ vs
  | [], h => ⟨h, by simp⟩
  | v :: vs, h => by
    unfold wipe at h
    by_cases hi : v = i
    · subst hi
      by_cases hv : v < (wipe σ vs).length
      · rw [List.getElem?_set_self hv] at h; cases h
      · rw [List.getElem?_eq_none (by simpa using hv)] at h; cases h
    · rw [List.getElem?_set_ne hi] at h
      obtain ⟨h1, h2⟩ := wipe_some h
      exact ⟨h1, by simp only [List.mem_cons, not_or]; exact ⟨fun e => hi e.symm, h2⟩⟩
abbrev Cx.blk (X : Cx) (s : Shared) (H : Hp) (scope : Scope) (cenv : Env) (fp : List Addr) : Cx := { X with s_0 := s, H_0 := H, env := cenv, outer := X.stack, ex := fp, fn := fun x => scope.names.lookup x == some .cell, pn := [], xe := fun _ _ => False }
section
variable {X : Cx} {pins : List (Addr × Obj)} {σ : St} {H : Hp} {s : Shared}
theorem block_start {scope : Scope} {own : List (Str × Nat)} {fp : List Addr} (I : Inv X pins σ H s) (ok : BlkOk X.N X.env.scope scope own) (hN : X.N.Nodup) (hfp : ∀ b ∈ fp, FpOk X pins H b ∧ b < s.heap.objs.size) :
    Inv (X.blk s H scope (compEnvC scope (cellsFrom (s.heap.objs.size + 1) scope.names (cloFrom X.env.cells scope.names [])) s.heap.objs.size X.env) fp) [] (wipe σ (own.map (·.2))) H { s with heap := pushCells (s.heap.push { cls := .type "dict", data := .dict #[] }) scope.names } := by
  have hfree : ∀ y ∈ scope.names, y.2 = .free → ∃ c, X.env.cells.lookup y.1 = some c := fun y hy e => by
    rcases ok.free y hy e with k | k
    · exact I.ok.has _ (.inl k)
    · exact I.ok.has _ (.inr k)
  generalize hcenv : compEnvC scope (cellsFrom (s.heap.objs.size + 1) scope.names (cloFrom X.env.cells scope.names [])) s.heap.objs.size X.env = cenv
  have kp : ∀ b o, s.heap.get? b = some o → (pushCells (s.heap.push { cls := .type "dict", data := .dict #[] }) scope.names).get? b = some o := fun b o e => pushCells_keeps _ _ _ _ (Heap.get?_push_of_some _ e)
  have hL : cenv.locals = s.heap.objs.size := by rw [← hcenv]; rfl
  have hcl : cenv.cells = cellsFrom (s.heap.objs.size + 1) scope.names (cloFrom X.env.cells scope.names []) := by rw [← hcenv]; rfl
  have hsc : cenv.scope = relS scope X.env.scope := by rw [← hcenv]; rfl
  rw [← Heap.size_push s.heap { cls := .type "dict", data := .dict #[] }] at hcl
  have cm : ∀ {y c}, (y, c) ∈ cloFrom X.env.cells scope.names [] → X.env.cells.lookup y = some c ∧ c < s.heap.objs.size := fun {y c} hm => by
    rcases cloFrom_mem hm with hm | ⟨h1, rfl⟩
    · cases hm
    · obtain ⟨c, hc⟩ := hfree _ h1 rfl
      rw [hc]
      obtain ⟨w, z⟩ := I.cell _ _ hc
      exact ⟨rfl, z.lt⟩
  have mem : ∀ {y c}, cenv.cells.lookup y = some c → (X.env.cells.lookup y = some c ∧ c < s.heap.objs.size) ∨ (s.heap.objs.size + 1 ≤ c ∧ CellAt (pushCells (s.heap.push { cls := .type "dict", data := .dict #[] }) scope.names) c none) := fun {y c} e => by
    rw [hcl] at e
    rcases cells_mem (PySem.mem_of_lookup e) with hm | ⟨_, h2, h3⟩
    · exact .inl (cm hm)
    · rw [Heap.size_push] at h2; exact .inr ⟨h2, h3⟩
  have look : ∀ {y}, scope.names.lookup y = some .free → ∃ c, cenv.cells.lookup y = some c ∧ X.env.cells.lookup y = some c := fun {y} hl => by
    have hy : (y, NameKind.free) ∈ scope.names := PySem.mem_of_lookup hl
    obtain ⟨c', e'⟩ := mem_lookup (cells_acc (names := scope.names) (n := (s.heap.push { cls := .type "dict", data := .dict #[] }).objs.size) (cloFrom_has (cells := X.env.cells) (acc := []) hy))
    rw [← hcl] at e'
    refine ⟨c', e', ?_⟩
    rw [hcl] at e'
    rcases cells_mem (PySem.mem_of_lookup e') with hm | ⟨h1, _, _⟩
    · exact (cm hm).1
    · have := ok.uniq _ h1
      rw [hl] at this; cases this
  have okB : (X.blk s H scope cenv fp).Ok := by
    refine ⟨I.ok.mod, by show cenv.scope.kind = _; rw [hsc]; exact ok.kind, by show cenv.globals = _; rw [← hcenv]; exact I.ok.glob, by show cenv.builtins = _; rw [← hcenv]; exact I.ok.blt, by show s.heap.objs.size ≤ cenv.locals; rw [hL]; exact Nat.le_refl _,
      fun y z c e1 e2 => ?_, fun y hy => ?_, fun y c z e => ?_, I.ok.hd, I.ok.frames, .inl rfl, fun b hb => ⟨?_, fun y c e z => ?_⟩, I.bs, Nat.le_trans I.ok.bsz I.sz, fun b o e hb => ?_, fun b hb z => ?_, I.stack, I.stkFree⟩
    · have e1 : cenv.cells.lookup y = some c := e1
      have e2 : cenv.cells.lookup z = some c := e2
      rw [hcl] at e1 e2
      refine cells_inj (fun p hp => ?_) (fun y z c a b => I.ok.inj y z c (cm a).1 (cm b).1) (PySem.mem_of_lookup e1) (PySem.mem_of_lookup e2)
      rw [Heap.size_push]
      exact Nat.lt_succ_of_lt (cm (y := p.1) (c := p.2) hp).2
    · show ∃ c, cenv.cells.lookup y = some c
      have key : ∀ k, cenv.kindOf y = some k → (k = .cell ∨ k = .free) → ∃ c, cenv.cells.lookup y = some c := fun k hk hk' => by
        unfold Env.kindOf at hk
        rw [hsc] at hk
        obtain ⟨k', e, r⟩ := lookup_relS hk
        have : k' = .cell ∨ k' = .free := by
          rcases r with rfl | ⟨rfl, _⟩
          · exact hk'
          · exact .inr rfl
        rcases this with rfl | rfl
        · obtain ⟨c, hm⟩ := cells_has (n := (s.heap.push { cls := .type "dict", data := .dict #[] }).objs.size) (acc := cloFrom X.env.cells scope.names []) (PySem.mem_of_lookup e)
          obtain ⟨c', e'⟩ := mem_lookup hm
          exact ⟨c', by rw [hcl]; exact e'⟩
        · obtain ⟨c, h1, _⟩ := look e
          exact ⟨c, h1⟩
      rcases hy with hy | hy
      · exact key _ hy (.inl rfl)
      · exact key _ hy (.inr rfl)
    · have z : (scope.names.lookup y == some NameKind.cell) = true := z
      have z : scope.names.lookup y = some .cell := by simpa using z
      have e : cenv.cells.lookup y = some c := e
      rw [hcl] at e
      rcases cells_mem (PySem.mem_of_lookup e) with hm | ⟨_, h2, _⟩
      · rcases cloFrom_mem hm with hm | ⟨h1, _⟩
        · cases hm
        · have q := ok.uniq _ h1
          rw [z] at q; cases q
      · rw [Heap.size_push] at h2
        exact Nat.le_of_succ_le h2
    · show b ≠ cenv.locals
      rw [hL]; exact Nat.ne_of_lt (hfp b hb).2
    · have e : cenv.cells.lookup y = some c := e
      rcases mem e with ⟨h1, _⟩ | ⟨h1, _⟩
      · exact (hfp b hb).1.2.2.2.2.1 y c h1 z
      · have h2 : s.heap.objs.size + 1 ≤ b := by rw [← z]; exact h1
        exact absurd (Nat.lt_of_lt_of_le (hfp b hb).2 (Nat.le_of_succ_le h2)) (Nat.lt_irrefl _)
    · rcases (hfp b hb).1.2.2.2.1 with z | z
      · exact I.ok.noex b o e z
      · exact absurd (Nat.lt_of_lt_of_le (Heap.lt_size e) (Nat.le_trans I.ok.bsz z)) (Nat.lt_irrefl _)
    · rcases List.mem_cons.mp (I.stkSub b z) with z | z
      · exact (hfp b hb).1.2.1 z
      · exact (hfp b hb).1.2.2.1 z
  refine ⟨okB, rfl, I.bare, Un.kept kp, ⟨fun _ => none, ?_, fun i y av e1 e2 e3 => ?_⟩, fun y c e => ?_, ?_, fun y c e => ?_, fun p hp => ?_, I.hok.kept kp, by rw [wipe_length]; exact I.len⟩
  · show Heap.Ns _ cenv.locals _
    rw [hL]
    exact Heap.Ns.keeps (Heap.Ns.new ..) fun b o e => pushCells_keeps _ _ _ _ e
  · obtain ⟨e2, hne⟩ := wipe_some e2
    have hfr : scope.names.lookup y = some .free ∧ (cenv.kindOf y = some .cell ∨ cenv.kindOf y = some .free) := by
      have key : ∀ k, cenv.scope.names.lookup y = some k → k = .local ∨ k = .cell ∨ k = .free → scope.names.lookup y = some .free ∧ (cenv.kindOf y = some .cell ∨ cenv.kindOf y = some .free) := fun k hk hk' => by
        have hk0 := hk
        rw [hsc] at hk
        obtain ⟨k', e, r⟩ := lookup_relS hk
        have no : ¬ (k' = .local ∨ k' = .cell) := fun hh => by
          rcases ok.own _ (PySem.mem_of_lookup e) hh with e' | e'
          · obtain ⟨p, hp, hpy⟩ := List.mem_map.mp e'
            have e3 := ok.ix p hp
            have : p.1 = y := hpy
            rw [this] at e3
            exact hne (List.mem_map.mpr ⟨p, hp, nodup_ix hN e3 e1⟩)
          · exact e' (List.mem_of_getElem? e1)
        rcases r with rfl | ⟨rfl, rfl⟩
        · rcases hk' with rfl | rfl | rfl
          · exact absurd (.inl rfl) no
          · exact absurd (.inr rfl) no
          · exact ⟨e, .inr hk0⟩
        · exact ⟨e, .inl hk0⟩
      have e3 : Vis cenv.scope y := e3
      rcases e3 with e3 | e3 | e3
      · exact key _ e3 (.inl rfl)
      · exact key _ e3 (.inr (.inl rfl))
      · exact key _ e3 (.inr (.inr rfl))
    obtain ⟨m, hn, hl⟩ := I.loc
    have hvis : Vis X.env.scope y := (ok.free _ (PySem.mem_of_lookup hfr.1) rfl).elim (fun k => .inr (.inl k)) (fun k => .inr (.inr k))
    obtain ⟨w, r, q⟩ := hl i y av e1 e2 hvis
    refine ⟨w, r, .inr ⟨hfr.2, ?_⟩⟩
    obtain ⟨c, h1, h2⟩ := look hfr.1
    rcases q with ⟨k, _⟩ | ⟨_, c', e', z⟩
    · have k : X.env.scope.names.lookup y = some .local := k
      rcases ok.free _ (PySem.mem_of_lookup hfr.1) rfl with k' | k' <;> rw [show X.env.scope.names.lookup y = _ from k'] at k <;> cases k
    · rw [h2] at e'; cases e'
      exact ⟨c, h1, z.keeps kp⟩
  · have e : cenv.cells.lookup y = some c := e
    rcases mem e with ⟨h1, _⟩ | ⟨_, z⟩
    · obtain ⟨w, z⟩ := I.cell y c h1
      exact ⟨w, z.keeps kp⟩
    · exact ⟨_, z⟩
  · show H cenv.locals = none
    rw [hL]; exact I.hok.fresh (Nat.le_refl _)
  · have e : cenv.cells.lookup y = some c := e
    rcases mem e with ⟨h1, _⟩ | ⟨h1, _⟩
    · exact I.freeC y c h1
    · exact I.hok.fresh (Nat.le_of_succ_le h1)
  · exact absurd (show p ∈ ([] : List (Addr × Obj)) ++ [] from hp) (by simp)
theorem app_ok {E : Value → Shared → Prop} {D : Addr} {xs : List V} {y : V} {v : Value} {Q : Value → Shared → Prop} (I : Inv X pins σ H s) (hD : H D = some (.lst xs)) (hz : xs.length < sizeLine) (r : RelV y v)
    (h : ∀ s', Inv X pins σ (upd H D (.lst (xs ++ [y]))) s' → Q .none s') : wpAny (model X.prog X.w) X.A (call (.builtin "list.append") [.ref D, v]) Q E s := by
  obtain ⟨hz', its, n, ri, e⟩ := I.hok D _ hD
  have hl := ri.length
  refine append_at (hsz := by rw [List.size_toArray]; trivial) e fun h' sb ho' => ?_
  refine h { s with heap := h' } (I.write (t' := s.toks) (by rw [hD]; trivial) (.inl rfl) (fun b u hb q => (sb.2 b hb).trans q) ⟨_, ho'⟩ ⟨by rw [List.length_append]; exact hz, its ++ [v], n + 1, ri.append (.cons r .nil), ?_⟩)
  rw [ho']
  simp
def PTs (X : Cx) (ifs : List Expr) (t : TT) : Prop :=
  ∀ (pins : List (Addr × Obj)) (s : Shared) (σ : St) (H : Hp) (Q : Bool → Hp → Prop), Inv X pins σ H s → t σ H Q →
    wpAny (model X.prog X.w) X.A (forIn ifs true fun c r => if r = true then do let ok ← isTrue c X.env (eval c X.env); pure (ForInStep.yield ok) else pure (ForInStep.yield r)) (TP X pins σ Q) X.xe s
def tYes : TT := fun _ H Q => Q true H
theorem pts_nil : PTs X [] tYes := fun _ _ _ H _ I h => wpAny_tests_nil ⟨H, I, h⟩
end
theorem thnF {α : Type} {t : Sem α} {Q Q' : α → Shared → Prop} {M : Model} {A : Around} {E : Value → Shared → Prop} {s : Shared} (h : wpAny M A t Q (fun _ _ => False) s) (hQ : ∀ a s, Q a s → Q' a s) : wpAny M A t Q' E s := wpAny_mono h hQ fun _ _ z => False.elim z
theorem compLoop_any {prog : Program} {w : World} {A : Around} {R : Result → Shared → Prop} {s : Shared} {elt target iter : Expr} {ifs : List Expr} {scope : Scope} {pos : Pos} {it acc : Value} {env : Env} (I : Nat → Shared → Prop)
    (turn : ∀ n s, I n s → wpAny (model prog w) A (pyNext it) (fun r s₁ => match r with
      | none => R (.ok .next) s₁
      | some v => wpAny (model prog w) A (letOwnedTupleGo target it v) (fun _ s₁' => wpAny (model prog w) A (assign target env v) (fun _ s₂ =>
          wpAny (model prog w) A (forIn ifs true fun c r => if r = true then do let ok ← isTrue c env (eval c env); pure (ForInStep.yield ok) else pure (ForInStep.yield r)) (fun ok s₃ =>
            if ok = true then wpAny (model prog w) A (eval elt env) (fun x s₄ =>
              wpAny (model prog w) A (call (.builtin "list.append") [acc, x]) (fun _ s₅ => ∃ m, m < n ∧ I m s₅) (notedBy (model prog w) A env fun e s' => R (.error e) s') s₄) (notedBy (model prog w) A env fun e s' => R (.error e) s') s₃
            else ∃ m, m < n ∧ I m s₃) (notedBy (model prog w) A env fun e s' => R (.error e) s') s₂) (notedBy (model prog w) A env fun e s' => R (.error e) s') s₁') (notedBy (model prog w) A env fun e s' => R (.error e) s') s₁) (notedBy (model prog w) A env fun e s' => R (.error e) s') s)
    (n : Nat) (h : I n s) :
    codeAny (model prog w) A (.compLoop (.ListComp elt [⟨target, iter, ifs, 0⟩] scope pos) 0 it acc env) R s := by
  refine codeAny_loop rfl I (fun n s hI => ?_) n h
  show wpAny _ A ((compTurn (.ListComp elt [⟨target, iter, ifs, 0⟩] scope pos) 0 it acc env).onRaise (fun x => do noteFrame x env; theTreesLotGoes x)) _ _ s
  refine wpAny_noted ?_
  rw [compTurn_list]
  refine wpAny_bind (wpAny_standAt (wpAny_bind (wpAny_mono (turn n s hI) (fun r s₁ h₁ => ?_) fun _ _ h' => h')))
  cases r with
  | none => exact wpAny_pure h₁
  | some v =>
    refine wpAny_bind (wpAny_mono h₁ (fun _ s₁' h₁' => ?_) fun _ _ h' => h')
    refine wpAny_bind (wpAny_mono h₁' (fun _ s₂ h₂ => wpAny_bind (wpAny_mono h₂ (fun ok s₃ h₃ => ?_) fun _ _ h' => h')) fun _ _ h' => h')
    cases ok with
    | false => exact wpAny_pure ⟨rfl, h₃⟩
    | true =>
      exact wpAny_bind (wpAny_bind (wpAny_mono h₃ (fun x s₄ h₄ => wpAny_bind (wpAny_mono h₄ (fun _ s₅ h₅ => wpAny_pure (wpAny_pure ⟨rfl, h₅⟩)) fun _ _ h' => h')) fun _ _ h' => h'))
section
variable {X : Cx}
def tLc (wi : TI) (g : TG) (tt : TT) (te : TE) (vs : List Nat) : TE := fun σ H Q => wi σ H fun J H1 => ∀ D, H1 D = none → ∃ W : Nat → Nat → Hp → Prop, (∃ m, W 0 m (upd H1 D (.lst []))) ∧ ∀ i m H, W i m H →
  (J.stop i H ∧ Q (.ref D) H) ∨ (J.go i H ∧ ∃ Nx : Hp → Prop, (∀ H', Nx H' → ∃ m', m' < m ∧ W (i + 1) m' H') ∧ ∀ x H', J.yld i H x H' → g x (wipe σ vs) H' fun σ2 H2 => wipe σ2 vs = wipe σ vs ∧ tt σ2 H2 fun b H3 =>
    if b = true then te σ2 H3 fun y H4 => ∃ acc, H4 D = some (.lst acc) ∧ acc.length < sizeLine ∧ Nx (upd H4 D (.lst (acc ++ [y]))) else Nx H3)
theorem lc_core {pins : List (Addr × Obj)} {s : Shared} {σ : St} {H : Hp} {Q : VK} {elt tg iter : Expr} {ifs : List Expr} {scope : Scope} {own : List (Str × Nat)} {pos pos' : Pos} {wi : TI} {g : TG} {tt : TT} {te : TE} {use : Option (Value → Sem Unit)} {Qf : Value → Shared → Prop}
    (hc : X.calm = true) (hN : X.N.Nodup) (I : Inv X pins σ H s) (hi : PI X tg iter wi) (ok : BlkOk X.N X.env.scope scope own)
    (hg : ∀ (s : Shared) (H : Hp) (C : Addr) (cl : List (Str × Addr)) (fp : List Addr), PG (X.blk s H scope (compEnvC scope cl C X.env) fp) tg g) (ht : ∀ (s : Shared) (H : Hp) (C : Addr) (cl : List (Str × Addr)) (fp : List Addr), PTs (X.blk s H scope (compEnvC scope cl C X.env) fp) ifs tt)
    (he : ∀ (s : Shared) (H : Hp) (C : Addr) (cl : List (Str × Addr)) (fp : List Addr), PE (X.blk s H scope (compEnvC scope cl C X.env) fp) elt te) (hs : ∀ x, foldedSetIterable iter X.env x = pure x)
    (h : tLc wi g tt te (own.map (·.2)) σ H Q)
    (hRR : ∀ D C s' m H', Inv X pins σ H' s' → Q (.ref D) H' → s'.heap.Ns C m → FpOk X pins H' C → compPost (model X.prog X.w) X.A X.xe use Qf (.ref D) C (.ok .next) s') :
    wpAny (model X.prog X.w) X.A (comprehension (.ListComp elt [⟨tg, iter, ifs, 0⟩] scope pos) scope X.env pos' (newList []) false (eval iter X.env) use) Qf X.xe s := by
  have hfree : ∀ y ∈ scope.names, y.2 = .free → ∃ c, X.env.cells.lookup y.1 = some c := fun y hy e => by
    rcases ok.free y hy e with k | k
    · exact I.ok.has _ (.inl k)
    · exact I.ok.has _ (.inr k)
  refine wpAny_comprehension_free (use := use) rfl hs (closure_ok hfree) ok.kind (fun y hy e => by rw [ok.uniq y hy, e])
    (thn (hi pins s σ H _ I h) fun xv s1 hx => thn hx fun itv s2 h2 => ?_)
  obtain ⟨it, fp, tn, J, H2, e, I2, T, st2, f2, q⟩ := h2
  subst e
  refine wpAny_newObj_type (newEnv_comp ?_) (by show 0 ≤ sizeLine; decide)
  generalize hD : s2.heap.objs.size = D
  have hDn : H2 D = none := I2.hok.fresh (Nat.le_of_eq hD)
  obtain ⟨W, ⟨m0, w0⟩, turn⟩ := q D hDn
  generalize hs3 : ({ s2 with heap := s2.heap.push { cls := .type "list", data := .seq ([] : List Value).toArray } } : Shared) = s3
  have I3 : Inv X pins σ (upd H2 D (.lst [])) s3 := by
    rw [← hs3]
    refine I2.laid (t' := s2.toks) (fun b o e => Heap.get?_push_of_some _ e) (Nat.le_of_eq hD) ⟨Nat.zero_le _, [], 0, .nil, ?_⟩
    rw [← hD]
    exact Heap.get?_push_size _ rfl
  have h3 : s3.heap = s2.heap.push { cls := .type "list", data := .seq ([] : List Value).toArray } := by rw [← hs3]
  have sz : ∀ b ∈ fp, b < s2.heap.objs.size := fun b hb => by
    obtain ⟨o, e, _⟩ := T.obj _ _ st2 b hb
    exact Heap.lt_size e
  have f3 : ∀ b ∈ fp, FpOk X pins (upd H2 D (.lst [])) b ∧ b < s3.heap.objs.size := fun b hb => by
    have hlt := sz b hb
    refine ⟨⟨?_, (f2 b hb).2⟩, by rw [h3, Heap.size_push]; exact Nat.lt_succ_of_lt hlt⟩
    rw [upd_ne (by rw [← hD]; exact Nat.ne_of_lt hlt)]
    exact (f2 b hb).1
  have st3 : tn 0 s3.heap := T.keep _ _ _ st2 fun b _ o e => by rw [h3]; exact Heap.get?_push_of_some _ e
  have I4 := block_start I3 ok hN f3
  have pg := hg s3 (upd H2 D (.lst [])) s3.heap.objs.size (cellsFrom (s3.heap.objs.size + 1) scope.names (cloFrom X.env.cells scope.names [])) fp
  have pt := ht s3 (upd H2 D (.lst [])) s3.heap.objs.size (cellsFrom (s3.heap.objs.size + 1) scope.names (cloFrom X.env.cells scope.names [])) fp
  have pe := he s3 (upd H2 D (.lst [])) s3.heap.objs.size (cellsFrom (s3.heap.objs.size + 1) scope.names (cloFrom X.env.cells scope.names [])) fp
  show codeAny _ _ (.compStart (.ListComp elt [⟨tg, iter, ifs, 0⟩] scope pos) 0 (.ref it) (.ref D) (compEnvC scope (cellsFrom (s3.heap.objs.size + 1) scope.names (cloFrom X.env.cells scope.names [])) s3.heap.objs.size X.env)) (compPost (model X.prog X.w) X.A X.xe use Qf (.ref D) s3.heap.objs.size) { s3 with heap := pushCells (s3.heap.push { cls := .type "dict", data := .dict #[] }) scope.names }
  have nfp : ∀ b ∈ fp, (upd H2 D (.lst [])) b = none := fun b hb => (f3 b hb).1.1
  generalize hce : compEnvC scope (cellsFrom (s3.heap.objs.size + 1) scope.names (cloFrom X.env.cells scope.names [])) s3.heap.objs.size X.env = ce at I4 pg pt pe ⊢
  have cL : ce.locals = s3.heap.objs.size := by subst hce; rfl
  generalize hH3 : upd H2 D (.lst []) = H3 at I3 I4 pg pt pe w0 nfp f3
  generalize hs4 : ({ s3 with heap := pushCells (s3.heap.push { cls := .type "dict", data := .dict #[] }) scope.names } : Shared) = s4 at I4 ⊢
  have st4 : tn 0 s4.heap := T.keep _ _ _ st3 fun b _ o e => by rw [← hs4]; exact pushCells_keeps _ _ _ _ (Heap.get?_push_of_some _ e)
  have stat : ∀ {σ' : St} {H' : Hp} {s' : Shared}, Inv (X.blk s3 H3 scope ce fp) [] σ' H' s' → (∀ b ∈ fp, H' b = none) → ∀ b ∈ fp, FpOk (X.blk s3 H3 scope ce fp) [] H' b := fun {σ' H' s'} I' hn b hb =>
    ⟨hn b hb, (I'.ok.exf b hb).1, I'.ok.exfs b hb, .inl hb, fun x c e => (I'.ok.exf b hb).2 x c e, fun p hp => absurd (show p ∈ ([] : List (Addr × Obj)) ++ [] from hp) (by simp)⟩
  have loop : codeAny (model X.prog X.w) X.A (.compLoop (.ListComp elt [⟨tg, iter, ifs, 0⟩] scope pos) 0 (.ref it) (.ref D) ce) (compPost (model X.prog X.w) X.A X.xe use Qf (.ref D) s3.heap.objs.size) s4 := by
    refine compLoop_any (fun n s' => ∃ i H', Inv (X.blk s3 H3 scope ce fp) [] (wipe σ (own.map (·.2))) H' s' ∧ tn i s'.heap ∧ (∀ b ∈ fp, H' b = none) ∧ W i n H') ?_ m0 ⟨0, H3, I4, st4, nfp, w0⟩
    rintro n s5 ⟨i, H5, I5, st5, n5, w5⟩
    rcases turn i n H5 w5 with ⟨stop, qq⟩ | ⟨go, Nx, hNx, step⟩
    · have td := T.done (X.blk s3 H3 scope ce fp) rfl rfl rfl hc i [] s5 _ H5 (fun _ _ => False) I5 (stat I5 n5) st5 stop
      refine thnF td fun r s6 ⟨hr, I6⟩ => ?_
      subst hr
      have I7 : Inv X pins σ H5 s6 := I3.call' (ch := fp) I6.os I6.base I6.hok I6.bare fun b hb => ⟨(f3 b hb).1.2.2.2.1, (f3 b hb).1.2.1, (f3 b hb).1.2.2.2.2.1, (f3 b hb).1.2.2.2.2.2⟩
      have nC : H5 s3.heap.objs.size = none := by
        have z : H5 ce.locals = none := I6.free
        rw [cL] at z
        exact z
      obtain ⟨m, hn, _⟩ := I6.loc
      have hn : s6.heap.Ns ce.locals m := hn
      rw [cL] at hn
      exact hRR D s3.heap.objs.size s6 m H5 I7 qq hn (I3.fpOk (Nat.le_refl _) nC)
    · have ti := T.item (X.blk s3 H3 scope ce fp) rfl rfl rfl hc i [] s5 _ H5 (fun _ _ => False) I5 (stat I5 n5) st5 go
      refine thnF ti fun r s6 ⟨u, hr, h6⟩ => ?_
      subst hr
      refine thnF h6 fun _ s7 ⟨x, H7, I7, r7, y7, st7, n7⟩ => ?_
      have I7' := I7.pinned (stat I7 n7) (T.obj _ _ st7)
      refine thnF (pg _ s7 _ H7 x u _ I7' r7 (step x H7 y7)) fun _ s8 ⟨σ8, H8, I8, hw8, q8⟩ => ?_
      refine thnF (pt _ s8 σ8 H8 _ I8 q8) fun b s9 ⟨H9, I9, q9⟩ => ?_
      have fin : ∀ {s' : Shared} {H' : Hp}, Inv (X.blk s3 H3 scope ce fp) ([] ++ pinsAt fp s7.heap) σ8 H' s' → Nx H' → ∃ m, m < n ∧ ∃ i H', Inv (X.blk s3 H3 scope ce fp) [] (wipe σ (own.map (·.2))) H' s' ∧ tn i s'.heap ∧ (∀ b ∈ fp, H' b = none) ∧ W i m H' := fun {s' H'} I' nx => by
        obtain ⟨m', hm, w'⟩ := hNx H' nx
        have pin' : ∀ b ∈ fp, ∀ o, s7.heap.get? b = some o → s'.heap.get? b = some o ∧ H' b = none := fun b hb o e =>
          let z := I'.pin (b, o) (List.mem_append_right _ (List.mem_append_right _ (mem_pinsAt hb e)))
          ⟨z.1, z.2.1⟩
        have hl : (wipe σ (own.map (·.2))).length = σ8.length := by rw [← hw8, wipe_length]
        refine ⟨m', hm, i + 1, H', (I'.unpinned (pins := [])).weak hl (fun j v e => ?_), T.keep _ _ _ st7 fun b hb o e => (pin' b hb o e).1, fun b hb => ?_, w'⟩
        · rw [← hw8] at e
          exact (wipe_some e).1
        · obtain ⟨o, e, _⟩ := T.obj _ _ st7 b hb
          exact (pin' b hb o e).2
      cases b with
      | false =>
        simp only [Bool.false_eq_true, if_false] at q9 ⊢
        exact fin I9 q9
      | true =>
        simp only [if_true] at q9 ⊢
        refine thnF (pe _ s9 σ8 H9 _ I9 q9) fun z s10 ⟨yv, H10, I10, r10, acc, hD10, hz10, nx⟩ => ?_
        exact app_ok (X := X.blk s3 H3 scope ce fp) I10 hD10 hz10 r10 fun s11 I11 => fin I11 nx
  exact codeAny_compStart_list loop (T.self X.A 0 _ _ _ st4 loop)
theorem pe_lc {elt tg iter : Expr} {ifs : List Expr} {scope : Scope} {own : List (Str × Nat)} {pos : Pos} {wi : TI} {g : TG} {tt : TT} {te : TE} (hc : X.calm = true) (hN : X.N.Nodup) (hi : PI X tg iter wi) (ok : BlkOk X.N X.env.scope scope own)
    (hg : ∀ (s : Shared) (H : Hp) (C : Addr) (cl : List (Str × Addr)) (fp : List Addr), PG (X.blk s H scope (compEnvC scope cl C X.env) fp) tg g) (ht : ∀ (s : Shared) (H : Hp) (C : Addr) (cl : List (Str × Addr)) (fp : List Addr), PTs (X.blk s H scope (compEnvC scope cl C X.env) fp) ifs tt)
    (he : ∀ (s : Shared) (H : Hp) (C : Addr) (cl : List (Str × Addr)) (fp : List Addr), PE (X.blk s H scope (compEnvC scope cl C X.env) fp) elt te) (hs : ∀ x, foldedSetIterable iter X.env x = pure x := by intro _; rfl) :
    PE X (.ListComp elt [⟨tg, iter, ifs, 0⟩] scope pos) (tLc wi g tt te (own.map (·.2))) := by
  intro pins s σ H Q I h
  rw [eval_ListComp]
  refine lc_core hc hN I hi ok hg ht he hs h fun D C s' m H' I' q hn f => ⟨m, hn, fun h'' sb => ?_⟩
  obtain ⟨f0, f1, f2, f3, f4, f5⟩ := f
  exact ⟨.ref D, H', I'.turned (t' := s'.toks) (fun b o hb e => (sb.2 b hb).trans e) f0 f1 f3 f4 f5, rfl, q⟩
theorem ps_setLc {i : Nat} {y : Str} {py : Pos} {elt tg iter : Expr} {ifs : List Expr} {scope : Scope} {own : List (Str × Nat)} {pos spos : Pos} {wi : TI} {g : TG} {tt : TT} {te : TE} (hc : X.calm = true) (hN : X.N.Nodup) (hy : X.N[i]? = some y) (hyl : X.env.scope.names.lookup y = some .local)
    (hsw : swapsWith (.ListComp elt [⟨tg, iter, ifs, 0⟩] scope pos) (some (.Name y py)) spos.line X.env = pure true) (hi : PI X tg iter wi) (ok : BlkOk X.N X.env.scope scope own)
    (hg : ∀ (s : Shared) (H : Hp) (C : Addr) (cl : List (Str × Addr)) (fp : List Addr), PG (X.blk s H scope (compEnvC scope cl C X.env) fp) tg g) (ht : ∀ (s : Shared) (H : Hp) (C : Addr) (cl : List (Str × Addr)) (fp : List Addr), PTs (X.blk s H scope (compEnvC scope cl C X.env) fp) ifs tt)
    (he : ∀ (s : Shared) (H : Hp) (C : Addr) (cl : List (Str × Addr)) (fp : List Addr), PE (X.blk s H scope (compEnvC scope cl C X.env) fp) elt te) (hs : ∀ x, foldedSetIterable iter X.env x = pure x := by intro _; rfl) :
    PS X (.Assign [.Name y py] (.ListComp elt [⟨tg, iter, ifs, 0⟩] scope pos) spos) (tAsg (tLc wi g tt te (own.map (·.2))) (gName i)) := by
  intro pins s σ H D I h
  rw [exec_Assign_Name_used _ _ _ _ hsw]
  refine wpAny_bind (wpAny_standAt (wpAny_bind ?_))
  show wpAny _ X.A (do let _ ← comprehension (.ListComp elt [⟨tg, iter, ifs, 0⟩] scope pos) scope X.env (firstIterPos [⟨tg, iter, ifs, 0⟩] pos) (newList []) false (eval iter X.env) (some (assign (.Name y py) X.env))) _ _ s
  have h : tLc wi g tt te (own.map (·.2)) σ H (fun x H1 => gName i x σ H1 D.nx) := h
  refine wpAny_bind (thn (lc_core (Qf := fun _ s' => SP X pins D .next s') hc hN I hi ok hg ht he hs h fun L C s' m H' I' q hn f => ?_) fun _ s' hq => wpAny_pure (wpAny_pure hq))
  show wpAny _ _ (assign (.Name y py) X.env (.ref L)) _ _ _
  refine wpAny_assign_Name (store_ok2 (v := V.ref L) I' hN hy (.inl hyl) rfl (fun s2 I2 ⟨a, sb, ha⟩ => ?_) (.inr hyl))
  obtain ⟨f0, f1, f2, f3, f4, f5⟩ := f
  have haC : C ≠ a := by
    rcases ha with z | z
    · rw [z]; exact f1
    · exact fun e => f4 y a z e.symm
  refine ⟨m, hn.sameBut sb haC, fun h3 sb3 => ?_⟩
  exact ⟨_, H', I2.turned (t' := s2.toks) (fun b o hb e => (sb3.2 b hb).trans e) f0 f1 f3 f4 f5, q⟩
theorem sw_true {elt : Expr} {gs : List Comprehension} {scope : Scope} {pos py : Pos} {y : Str} {l : Nat} {env : Env} (hk : env.scope.kind = .function) (hy : env.scope.names.lookup y = some .local) (hl : (py.line == pos.line) = true)
    (ha : (scope.names.any fun (n, k) => n == y && (k == .local || k == .cell)) = false) : swapsWith (.ListComp elt gs scope pos) (some (.Name y py)) l env = pure true := by
  have ky : env.kindOf y = some .local := hy
  have hb : env.blockKind = .function := by unfold Env.blockKind; rw [hk]; rfl
  unfold swapsWith
  simp only [hb, ky, ha, Expr.pos, hl]
  rfl
end
theorem lc_range {lo : Int} {n : Nat} {g : TG} {tt : TT} {te : TE} {vs : List Nat} {σ : St} {H1 : Hp} {D : Addr} {Qd : Hp → Prop} (Pv : Nat → Hp → Prop) (h0 : Pv 0 (upd H1 D (.lst [])))
    (hs : ∀ i H, i < n → Pv i H → g (.int (lo + i)) (wipe σ vs) H fun σ2 H2 => wipe σ2 vs = wipe σ vs ∧ tt σ2 H2 fun b H3 =>
      if b = true then te σ2 H3 fun y H4 => ∃ acc, H4 D = some (.lst acc) ∧ acc.length < sizeLine ∧ Pv (i + 1) (upd H4 D (.lst (acc ++ [y]))) else Pv (i + 1) H3) (hd : ∀ H, Pv n H → Qd H) :
    ∃ W : Nat → Nat → Hp → Prop, (∃ m, W 0 m (upd H1 D (.lst []))) ∧ ∀ i m H, W i m H →
      ((Itr lo n).stop i H ∧ Qd H) ∨ ((Itr lo n).go i H ∧ ∃ Nx : Hp → Prop, (∀ H', Nx H' → ∃ m', m' < m ∧ W (i + 1) m' H') ∧ ∀ x H', (Itr lo n).yld i H x H' → g x (wipe σ vs) H' fun σ2 H2 => wipe σ2 vs = wipe σ vs ∧ tt σ2 H2 fun b H3 =>
        if b = true then te σ2 H3 fun y H4 => ∃ acc, H4 D = some (.lst acc) ∧ acc.length < sizeLine ∧ Nx (upd H4 D (.lst (acc ++ [y]))) else Nx H3) := by
  refine ⟨fun i m H => m = n - i ∧ i ≤ n ∧ Pv i H, ⟨n, by simp, Nat.zero_le _, h0⟩, ?_⟩
  rintro i m H ⟨rfl, hi, p⟩
  by_cases hlt : i < n
  · refine .inr ⟨hlt, Pv (i + 1), fun H' p' => ⟨n - (i + 1), by trivial, rfl, hlt, p'⟩, fun x H' y => ?_⟩
    obtain ⟨e, y⟩ := y
    subst e y
    exact hs i _ hlt p
  · have e : i = n := by trivial
    subst e
    exact .inl ⟨Nat.le_refl _, hd H p⟩
theorem lc_list {K : PySem.W.Frag} {a : Addr} {xs : List V} {g : TG} {tt : TT} {te : TE} {vs : List Nat} {σ : St} {H1 : Hp} {D : Addr} {Qd : Hp → Prop} (Pv : Nat → Hp → Prop) (h0 : Pv 0 (upd H1 D (.lst []))) (hl : ∀ i H, i ≤ xs.length → Pv i H → SqL K H a xs)
    (hs : ∀ i x H, xs[i]? = some x → Pv i H → g x (wipe σ vs) H fun σ2 H2 => wipe σ2 vs = wipe σ vs ∧ tt σ2 H2 fun b H3 =>
      if b = true then te σ2 H3 fun y H4 => ∃ acc, H4 D = some (.lst acc) ∧ acc.length < sizeLine ∧ Pv (i + 1) (upd H4 D (.lst (acc ++ [y]))) else Pv (i + 1) H3) (hd : ∀ H, Pv xs.length H → Qd H) :
    ∃ W : Nat → Nat → Hp → Prop, (∃ m, W 0 m (upd H1 D (.lst []))) ∧ ∀ i m H, W i m H →
      ((Itl K a).stop i H ∧ Qd H) ∨ ((Itl K a).go i H ∧ ∃ Nx : Hp → Prop, (∀ H', Nx H' → ∃ m', m' < m ∧ W (i + 1) m' H') ∧ ∀ x H', (Itl K a).yld i H x H' → g x (wipe σ vs) H' fun σ2 H2 => wipe σ2 vs = wipe σ vs ∧ tt σ2 H2 fun b H3 =>
        if b = true then te σ2 H3 fun y H4 => ∃ acc, H4 D = some (.lst acc) ∧ acc.length < sizeLine ∧ Nx (upd H4 D (.lst (acc ++ [y]))) else Nx H3) := by
  refine ⟨fun i m H => m = xs.length - i ∧ i ≤ xs.length ∧ Pv i H, ⟨xs.length, by simp, Nat.zero_le _, h0⟩, ?_⟩
  rintro i m H ⟨rfl, hi, p⟩
  have q := hl i H hi p
  by_cases hlt : i < xs.length
  · refine .inr ⟨⟨xs, xs[i], q, by simp [hlt]⟩, Pv (i + 1), fun H' p' => ⟨xs.length - (i + 1), by trivial, rfl, hlt, p'⟩, fun x H' y => ?_⟩
    obtain ⟨e, y⟩ := y
    subst e
    exact hs i x _ (y xs q) p
  · have e : i = xs.length := by trivial
    subst e
    exact .inl ⟨⟨xs, q, Nat.le_refl _⟩, hd H p⟩
theorem lc_tup {K : PySem.W.Frag} {a : Addr} {xs : List V} {g : TG} {tt : TT} {te : TE} {vs : List Nat} {σ : St} {H1 : Hp} {D : Addr} {Qd : Hp → Prop} (Pv : Nat → Hp → Prop) (h0 : Pv 0 (upd H1 D (.lst []))) (hl : ∀ i H, i ≤ xs.length → Pv i H → SqT K H a xs)
    (hs : ∀ i x H, xs[i]? = some x → Pv i H → g x (wipe σ vs) H fun σ2 H2 => wipe σ2 vs = wipe σ vs ∧ tt σ2 H2 fun b H3 =>
      if b = true then te σ2 H3 fun y H4 => ∃ acc, H4 D = some (.lst acc) ∧ acc.length < sizeLine ∧ Pv (i + 1) (upd H4 D (.lst (acc ++ [y]))) else Pv (i + 1) H3) (hd : ∀ H, Pv xs.length H → Qd H) :
    ∃ W : Nat → Nat → Hp → Prop, (∃ m, W 0 m (upd H1 D (.lst []))) ∧ ∀ i m H, W i m H →
      ((Itt K a).stop i H ∧ Qd H) ∨ ((Itt K a).go i H ∧ ∃ Nx : Hp → Prop, (∀ H', Nx H' → ∃ m', m' < m ∧ W (i + 1) m' H') ∧ ∀ x H', (Itt K a).yld i H x H' → g x (wipe σ vs) H' fun σ2 H2 => wipe σ2 vs = wipe σ vs ∧ tt σ2 H2 fun b H3 =>
        if b = true then te σ2 H3 fun y H4 => ∃ acc, H4 D = some (.lst acc) ∧ acc.length < sizeLine ∧ Nx (upd H4 D (.lst (acc ++ [y]))) else Nx H3) := by
  refine ⟨fun i m H => m = xs.length - i ∧ i ≤ xs.length ∧ Pv i H, ⟨xs.length, by simp, Nat.zero_le _, h0⟩, ?_⟩
  rintro i m H ⟨rfl, hi, p⟩
  have q := hl i H hi p
  by_cases hlt : i < xs.length
  · refine .inr ⟨⟨xs, xs[i], q, by simp [hlt]⟩, Pv (i + 1), fun H' p' => ⟨xs.length - (i + 1), by trivial, rfl, hlt, p'⟩, fun x H' y => ?_⟩
    obtain ⟨e, y⟩ := y
    subst e
    exact hs i x _ (y xs q) p
  · have e : i = xs.length := by trivial
    subst e
    exact .inl ⟨⟨xs, q, Nat.le_refl _⟩, hd H p⟩
def blkC (N : List Str) (sc scope : Scope) (own : List (Str × Nat)) : Bool :=
  (match scope.kind with | .function => true | _ => false) && (scope.names.all fun y => decide (scope.names.lookup y.1 = some y.2)) && (own.all fun p => decide (N[p.2]? = some p.1)) &&
    (scope.names.all fun y => match y.2 with
      | .free => (match sc.names.lookup y.1 with | some .cell => true | some .free => true | _ => false)
      | .local => decide (y.1 ∈ own.map (·.1)) || decide (y.1 ∉ N)
      | .cell => decide (y.1 ∈ own.map (·.1)) || decide (y.1 ∉ N)
      | _ => true)
theorem blkOk_by {N : List Str} {sc scope : Scope} {own : List (Str × Nat)} (h : blkC N sc scope own = true) : BlkOk N sc scope own := by
  unfold blkC at h
  simp only [Bool.and_eq_true, List.all_eq_true, decide_eq_true_eq] at h
  obtain ⟨⟨⟨h1, h2⟩, h3⟩, h4⟩ := h
  refine ⟨?_, h2, h3, fun y hy e => ?_, fun y hy e => ?_⟩
  · split at h1
    · assumption
    · cases h1
  · have q := h4 y hy
    simp only [e] at q
    split at q <;> first | exact .inl (by assumption) | exact .inr (by assumption) | cases q
  · have q := h4 y hy
    rcases e with e | e <;> (simp only [e, Bool.or_eq_true, decide_eq_true_eq] at q; exact q)
end L2
namespace L2
open PySem PySem.Spec PyProof.Rows
section
variable {prog : Program} {w : World} {A : Around} {R : Result → Shared → Prop} {s : Shared} {elt t0 i0 t1 i1 : Expr} {ifs0 ifs1 : List Expr} {scope : Scope} {pos : Pos} {it acc : Value} {env : Env}
end
section
variable {X : Cx}
end
end L2
namespace L2
open PySem PySem.Spec PyProof.Rows
section
variable {κ : Type} [DecidableEq κ]
end
section
variable {P : Program} {w : World} {H : Hp} {h : Heap} {a : Addr}
end
section
variable {X : Cx} {pins : List (Addr × Obj)} {σ : St} {H : Hp} {s : Shared} {a : Addr} {y v : V} {u r : Value} {o : Option V} {A : Around} {E : Value → Shared → Prop}
end
section
variable {X : Cx} {pins : List (Addr × Obj)} {σ : St} {H : Hp} {s : Shared} {a : Addr} {kvs : List (Key × V)} {k : Key} {u : Value} {A : Around} {E : Value → Shared → Prop}
end
section
variable {X : Cx} {o i e value : Expr} {pos pos' tpos : Pos} {td ty tv : TE}
end
section
variable {X : Cx} {pos : Pos}
end
structure M1 (X : Cx) (o : Expr) (m : Str) (apos : Pos) (e : Expr) (cpos : Pos) : Prop where
  base : attributeBase o m X.env (eval o X.env) = eval o X.env
  few : ((backTo cpos (starEach [e] X.env)).all (fun x => !x.1) && (backToKw cpos (keywordEach [] X.env)).all (fun x => x.1.isSome)
    && decide (([e] : List Expr).length + ([] : List Keyword).length + (if ([] : List Keyword).isEmpty then 0 else 1) < 30)) = true
  line : (apos.endLine == cpos.line) = true
  trees : backTo cpos (starEach [e] X.env) = [(false, eval e X.env)]
structure M2 (X : Cx) (o : Expr) (m : Str) (apos : Pos) (e f : Expr) (cpos : Pos) : Prop where
  base : attributeBase o m X.env (eval o X.env) = eval o X.env
  few : ((backTo cpos (starEach [e, f] X.env)).all (fun x => !x.1) && (backToKw cpos (keywordEach [] X.env)).all (fun x => x.1.isSome)
    && decide (([e, f] : List Expr).length + ([] : List Keyword).length + (if ([] : List Keyword).isEmpty then 0 else 1) < 30)) = true
  line : (apos.endLine == cpos.line) = true
  trees : backTo cpos (starEach [e, f] X.env) = [(false, eval e X.env), (false, eval f X.env)]
section
variable {X : Cx} {pins : List (Addr × Obj)} {σ : St} {H : Hp} {s : Shared} {a : Addr} {y d : V} {u r : Value} {o : Option V} {A : Around} {E : Value → Shared → Prop}
end
section
variable {X : Cx} {o e f : Expr} {apos cpos : Pos} {td ty tx : TE}
end
section
variable {X : Cx} {pins : List (Addr × Obj)} {σ : St} {H : Hp} {s : Shared} {a : Addr} {kvs : List (Key × V)} {A : Around} {E : Value → Shared → Prop}
end
section
variable {X : Cx} {pins : List (Addr × Obj)} {σ : St} {H : Hp} {s : Shared} {a : Addr} {y : V} {u : Value} {A : Around} {E : Value → Shared → Prop}
end
end L2
namespace L2
open PySem PySem.Spec PyProof.Rows
section
variable {prog : Program} {w : World} {A : Around} {E : Value → Shared → Prop}
end
section
variable {X : Cx}
end
end L2
namespace L2
open PySem PySem.Spec PyProof.Rows
section
variable {X : Cx} {pins : List (Addr × Obj)} {σ : St} {H : Hp} {s : Shared} {h' : Heap}
theorem Inv.turnedNew {t' : Nat} {ch : List Addr} {T : Addr} {ob : HO} (I : Inv X pins σ H s) (k : ∀ b o, b ∉ ch → s.heap.get? b = some o → h'.get? b = some o) (hf : ∀ b ∈ ch, FpOk X pins H b) (hT : s.heap.objs.size ≤ T)
    (new : ObjOk X.prog X.w (upd H T ob) h' T ob) : Inv X pins σ (upd H T ob) { s with heap := h', toks := t' } := by
  have hn : H T = none := I.hok.fresh hT
  have nit : ∀ b u, H b = some u → b ∉ ch := fun b u e z => by
    have q := (hf b z).1
    rw [q] at e; cases e
  refine I.step (g' := s.gens) (d' := s.drawn) (ch := ch) (fun b hb => ⟨(hf b hb).2.2.2.1, (hf b hb).2.1, (hf b hb).2.2.2.2.1, (hf b hb).2.2.2.2.2⟩) (fun b o _ _ hc e _ => k b o hc e) (fun b o _ _ hc e _ => ⟨o.slots, k b o hc e⟩)
    (fun b o _ e n => ?_) (fun b o hc e => ⟨o, k b o hc e⟩) (fun b xs e => ?_) (fun b o u e => ?_) (fun b ps e => ⟨#[], ?_⟩) (fun m hm => ?_) (fun b u e => ?_) I.bare
  · rw [upd_ne (Nat.ne_of_lt (Nat.lt_of_lt_of_le (Heap.lt_size e) hT))]; exact n
  · rw [upd_ne (ne_of_none e hn)]; exact e
  · rw [upd_ne (ne_of_none e hn)]; exact e
  · rw [upd_ne (ne_of_none e hn), e]; simp
  · obtain ⟨o, es, ep, ho, r⟩ := hm
    exact ⟨o, es, ep, k _ o (fun z => (hf _ z).2.1 rfl) ho, r⟩
  · by_cases hb : b = T
    · subst hb
      rw [upd_same] at e
      cases e
      exact new
    · rw [upd_ne hb] at e
      refine (I.hok b u e).stay (fun c v hc q => k c v ?_ q) (fun c q => by rw [upd_ne (ne_of_none q hn)]; exact q) fun c xs q => by rw [upd_ne (ne_of_none q hn)]; exact q
      rcases hc with z | z
      · rw [z]; exact nit b u e
      · exact nit c _ z
end
section
variable {X : Cx}
theorem pi_one {tg : Expr} {pins : List (Addr × Obj)} {σ : St} {H : Hp} {s : Shared} {R : It → Hp → Prop} {J : It} {tn : Nat → Heap → Prop} {tk : Nat} (I : Inv X pins σ H s) (o : Obj)
    (T : Turn X.prog X.w X.K tg J [s.heap.objs.size] s.heap.objs.size tn) (st : tn 0 (s.heap.push o)) (q : R J H) : PIE X pins σ tg R (.ref s.heap.objs.size) { s with heap := s.heap.push o, toks := tk } := by
  refine ⟨s.heap.objs.size, [s.heap.objs.size], tn, J, H, rfl, I.kept fun b ob e => Heap.get?_push_of_some _ e, T, st, fun b hb => ?_, q⟩
  have e : b = s.heap.objs.size := by simpa using hb
  subst e
  exact I.fpOk (Nat.le_refl _) (I.hok.fresh (Nat.le_refl _))
end
def Itc (lo c : Int) (n : Nat) : It := ⟨fun i _ => i < n, fun i H x H' => H' = H ∧ x = .int (lo + (i : Nat) * c), fun i _ => n ≤ i⟩
theorem turn_rangeC {P : Program} {w : World} {K : PySem.W.Frag} {tg : Expr} (it : Addr) (lo c : Int) (n : Nat) : Turn P w K tg (Itc lo c n) [it] it (fun i h => IsRangeIter h it (lo + (i : Nat) * c) ((n : Int) - (i : Nat)) c) where
  mem := by simp
  obj := fun i h st b hb => by
    have e : b = it := by simpa using hb
    subst e
    exact ⟨_, st, fun v z => nomatch z⟩
  keep := fun i h h' st k => k it (by simp) _ st
  item := by
    intro X hP hw hK hc i pins s σ H E I hf st hg
    subst hP hw hK
    obtain ⟨f0, f1, f2, f3, f4, f5⟩ := hf it (by simp)
    have W := Walks.range (prog := X.prog) (w := X.w) (I.ok.hd hc) it lo c n
    refine W.item i s _ _ hg st fun v h' tk hv st' kk => ?_
    obtain ⟨t, rfl⟩ := hv
    have I1 : Inv X pins σ H { s with heap := h', toks := tk } := I.turned (fun b o hb e => kk b o (by simpa using hb) e) f0 f1 f3 f4 f5
    exact ⟨_, rfl, go_of (s := { s with heap := h', toks := tk }) (n := "range_iterator") st' rfl rfl (by decide) ⟨.int (lo + (i : Nat) * c), H, I1, ⟨t, rfl⟩, ⟨rfl, rfl⟩, st', fun b hb => (hf b hb).1⟩⟩
  done := by
    intro X hP hw hK hc i pins s σ H E I hf st hg
    subst hP hw hK
    obtain ⟨f0, f1, f2, f3, f4, f5⟩ := hf it (by simp)
    exact wpAny_pyNext_range_end (I.ok.hd hc) st (by have : n ≤ i := hg; trivial) fun h' eb => ⟨rfl, I.turned (t' := s.toks) (fun b o hb e => eb b o hb e) f0 f1 f3 f4 f5⟩
  self := fun A i s Q E st h => wpAny_pyIter_rangeiter st h
def RgC (i j c : Int) (n : Nat) : Prop := c ≠ 0 ∧ c.natAbs < 1073741824 ∧ Builtin.Range.small i j c = true ∧ Builtin.Range.rangeSize i j c = n
def iRng3 (ta : TA) : TI := fun σ H R => ta σ H fun vs H1 => ∃ (i j c : Int) (n : Nat), vs = [.int i, .int j, .int c] ∧ RgC i j c n ∧ R (Itc i c n) H1
section
variable {X : Cx} {tg : Expr}
theorem pi_range3 {a b c : Expr} {ta : TA} {p pos : Pos} (hg : Gl X "range") (hm : X.mg "range" = none) (ha : PA X [a, b, c] ta)
    (hs : starEach [a, b, c] X.env = (false, eval a X.env) :: starEach [b, c] X.env := by rfl) (hpl : (backTo pos (starEach [b, c] X.env)).any (·.1) = false := by rfl) :
    PI X tg (.Call (.Name "range" p) [a, b, c] [] pos) (iRng3 ta) := by
  intro pins s σ H R I h
  refine Call_ (ld_blt I hg hm boot_range (PyProof.Rows.callWith_type1 (thn (ha pos pins s σ H _ I h) fun us s1 ⟨vs, H1, I1, r1, q1⟩ => ?_) hs hpl))
  obtain ⟨i, j, k, n, e, ⟨c0, c1, c2, c3⟩, q⟩ := q1
  subst e
  cases r1 with
  | cons r rr =>
    cases rr with
    | cons r' rr =>
      cases rr with
      | cons r'' rr =>
        cases rr
        obtain ⟨t, rfl⟩ := r
        obtain ⟨t', rfl⟩ := r'
        obtain ⟨t'', rfl⟩ := r''
        refine call_range_3 c0 ?_ (.inl (PyProof.noPylong_small c1))
        refine wpAny_pyIter_range (IsRange.new ..) c2 ?_
        have I2 : Inv X pins σ H1 { s1 with heap := s1.heap.push { cls := .type "range", data := .fields #[.int i t, .int j t', .int k t''] } } := I1.kept (t' := s1.toks) fun b o e => Heap.get?_push_of_some _ e
        refine pi_one (tk := s1.toks) I2 _ (turn_rangeC _ i k n) ?_ q
        have e1 : i + ((0 : Nat) : Int) * k = i := by simp
        have e2 : (n : Int) - ((0 : Nat) : Int) = Builtin.Range.rangeSize i j k := by rw [c3]; simp
        show IsRangeIter _ _ (i + ((0 : Nat) : Int) * k) ((n : Int) - ((0 : Nat) : Int)) k
        rw [e1, e2]
        exact Heap.get?_push_size _ rfl
end
theorem for_rangeC {lo c : Int} {n : Nat} {g : TG} {tb : TS} {D : Ends} {σ : St} {H : Hp} (Pv : Nat → St → Hp → Prop) (h0 : Pv 0 σ H)
    (hs : ∀ i σ H, i < n → Pv i σ H → g (.int (lo + (i : Nat) * c)) σ H fun σ2 H2 => tb { D with nx := Pv (i + 1), ct := Pv (i + 1), bk := D.nx } σ2 H2) (hd : ∀ σ H, Pv n σ H → D.nx σ H) :
    ∃ W : Nat → Nat → St → Hp → Prop, (∃ m, W 0 m σ H) ∧ ∀ i m σ H, W i m σ H →
      ((Itc lo c n).stop i H ∧ D.nx σ H) ∨ ((Itc lo c n).go i H ∧ ∃ N : St → Hp → Prop, (∀ σ' H', N σ' H' → ∃ m', m' < m ∧ W (i + 1) m' σ' H') ∧ ∀ x H', (Itc lo c n).yld i H x H' → g x σ H' fun σ2 H2 => tb { D with nx := N, ct := N, bk := D.nx } σ2 H2) := by
  refine ⟨fun i m σ H => m = n - i ∧ i ≤ n ∧ Pv i σ H, ⟨n, by simp, Nat.zero_le _, h0⟩, ?_⟩
  rintro i m σ H ⟨rfl, hi, p⟩
  by_cases hlt : i < n
  · refine .inr ⟨hlt, Pv (i + 1), fun σ' H' p' => ⟨n - (i + 1), by trivial, rfl, hlt, p'⟩, fun x H' y => ?_⟩
    obtain ⟨e, y⟩ := y
    subst e y
    exact hs i σ _ hlt p
  · have e : i = n := by trivial
    subst e
    exact .inl ⟨Nat.le_refl _, hd σ H p⟩
section
variable {X : Cx} {tg : Expr}
end
section
variable {prog : Program} {w : World} {A : Around} {E : Value → Shared → Prop} {s : Shared}
end
section
variable {X : Cx} {pins : List (Addr × Obj)} {σ : St} {H : Hp} {s : Shared} {d : Addr} {o : Obj}
end
section
variable {P : Program} {w : World} {K : PySem.W.Frag} {tg : Expr} {d : Addr} {o : Obj} {es : Array DictEntry} {ep : Nat}
end
section
variable {X : Cx} {tg e : Expr} {td : TE} {apos cpos : Pos}
end
def Ite (K : PySem.W.Frag) (a : Addr) : It :=
  ⟨fun i H => ∃ (xs : List V) (x : V), SqL K H a xs ∧ xs[i]? = some x, fun i H v H' => ∃ T x, v = .ref T ∧ H T = none ∧ H' = upd H T (.tup [.int (i : Nat), x]) ∧ ∀ xs, SqL K H a xs → xs[i]? = some x, fun i H => ∃ xs : List V, SqL K H a xs ∧ xs.length ≤ i⟩
theorem turn_enum {P : Program} {w : World} {K : PySem.W.Frag} {elts : List Expr} {kk : Nat} {tpos : Pos} (a e it : Addr) :
    Turn P w K (.Tuple elts kk tpos) (Ite K a) [e, it] e (fun i h => (∃ old, IsEnum h e it ((i : Nat) : Int) old) ∧ h.IsListIter it a i ∧ e ≠ it) where
  mem := by simp
  obj := fun i h st b hb => by
    obtain ⟨⟨old, he⟩, ⟨o, ho, hc, hd⟩, _⟩ := st
    have e' : b = e ∨ b = it := by simpa using hb
    rcases e' with z | z
    · rw [z]; exact ⟨_, he, fun v q => nomatch q⟩
    · rw [z]; exact ⟨o, ho, fun v q => by rw [hd] at q; cases q⟩
  keep := fun i h h' st k => let ⟨⟨old, he⟩, hi, hne⟩ := st; ⟨⟨old, k e (by simp) _ he⟩, hi.at fun o q => k it (by simp) o q, hne⟩
  item := by
    intro X hP hw hK hc i pins s σ H E I hf st hg
    subst hP hw hK
    obtain ⟨⟨old, he⟩, hit, hne⟩ := st
    obtain ⟨xs, x, hq, hx⟩ := hg
    obtain ⟨its, rv, p, hz⟩ := I.list hq
    obtain ⟨u, hu, ru⟩ := rv.get hx
    have hel : e < s.heap.objs.size := Heap.lt_size he
    have hil : it < s.heap.objs.size := by obtain ⟨_, q, _⟩ := hit; exact Heap.lt_size q
    refine wpAny_pyNext_enum_item he hit p.isList (x := u) (by simpa using hu) hne fun h' ho hit' hT hsz hk => ?_
    refine ⟨_, rfl, wpAny_letOwnedTupleGo_enum (s := { s with heap := h', toks := s.toks + 1 }) ho fun h'' he' sb => ?_⟩
    have hT2 : h''.get? s.heap.objs.size = some { cls := .type "tuple", data := .seq #[.int i s.toks, u] } := (sb.2 _ (Nat.ne_of_gt hel)).trans hT
    have new : ObjOk X.prog X.w (upd H s.heap.objs.size (.tup [.int (i : Nat), x])) h'' s.heap.objs.size (.tup [.int (i : Nat), x]) :=
      ⟨by show 2 ≤ sizeLine; decide, [.int i s.toks, u], .cons ⟨_, rfl⟩ (.cons ru .nil), ⟨_, hT2, rfl, _, rfl⟩⟩
    have I1 : Inv X pins σ (upd H s.heap.objs.size (.tup [.int (i : Nat), x])) { s with heap := h'', toks := s.toks + 1 } :=
      I.turnedNew (ch := [e, it]) (fun b ob hb q => (sb.2 b (fun z => hb (by simp [z]))).trans (hk b ob (fun z => hb (by simp [z])) (fun z => hb (by simp [z])) q)) hf (Nat.le_refl _) new
    refine ⟨.ref s.heap.objs.size, _, I1, rfl, ⟨_, x, rfl, I.hok.fresh (Nat.le_refl _), rfl, fun ys hy => by rw [I.list_inj hy hq]; exact hx⟩, ⟨⟨u, ?_⟩, hit'.at fun o q => (sb.2 it (Ne.symm hne)).trans q, hne⟩, fun b hb => ?_⟩
    · have e1 : ((i + 1 : Nat) : Int) = (i : Int) + 1 := by trivial
      rw [e1]; exact he'
    · have hb' : b < s.heap.objs.size := by
        have e' : b = e ∨ b = it := by simpa using hb
        rcases e' with z | z
        · rw [z]; exact hel
        · rw [z]; exact hil
      rw [upd_ne (Nat.ne_of_lt hb')]
      exact (hf b hb).1
  done := by
    intro X hP hw hK hc i pins s σ H E I hf st hg
    subst hP hw hK
    obtain ⟨⟨old, he⟩, hit, hne⟩ := st
    obtain ⟨xs, hq, hx⟩ := hg
    obtain ⟨its, rv, p, hz⟩ := I.list hq
    obtain ⟨f0, f1, f2, f3, f4, f5⟩ := hf it (by simp)
    have hl := rv.length
    exact wpAny_pyNext_enum_end (I.ok.hd hc) he hit p.isList (by simp; trivial) fun h' eb => ⟨rfl, I.turned (t' := s.toks) (fun b o hb q => eb b o hb q) f0 f1 f3 f4 f5⟩
  self := fun A i s Q E st h => let ⟨⟨_, he⟩, _⟩ := st; wpAny_pyIter_enum he h
def iEnum (K : PySem.W.Frag) (ta : TA) : TI := fun σ H R => ta σ H fun vs H1 => ∃ a xs, vs = [.ref a] ∧ SqL K H1 a xs ∧ R (Ite K a) H1
theorem pi_enum {X : Cx} {e : Expr} {ta : TA} {p pos tpos : Pos} {elts : List Expr} {kk : Nat} (hg : Gl X "enumerate") (hm : X.mg "enumerate" = none) (ha : PA X [e] ta) (hs : starEach [e] X.env = [(false, eval e X.env)] := by rfl) :
    PI X (.Tuple elts kk tpos) (.Call (.Name "enumerate" p) [e] [] pos) (iEnum X.K ta) := by
  intro pins s σ H R I h
  refine Call_ (ld_blt I hg hm boot_enumerate (PyProof.Rows.callWith_type1 (thn (ha pos pins s σ H _ I h) fun us s1 ⟨vs, H1, I1, r1, q1⟩ => ?_) hs rfl))
  obtain ⟨a, xs, ex, hq, q⟩ := q1
  subst ex
  cases r1 with
  | cons r rr =>
    cases rr
    cases r
    obtain ⟨its, rv, p', hz⟩ := I1.list hq
    refine call_enumerate_list p'.isList fun h' he hit hsz hk => wpAny_pyIter_enum he ?_
    have I2 : Inv X pins σ H1 { s1 with heap := h' } := I1.kept (t' := s1.toks) hk
    refine ⟨s1.heap.objs.size + 1, [s1.heap.objs.size + 1, s1.heap.objs.size], _, _, H1, rfl, I2, turn_enum a (s1.heap.objs.size + 1) s1.heap.objs.size, ⟨⟨.none, he⟩, hit, Nat.succ_ne_self _⟩, fun b hb => ?_, q⟩
    have e' : b = s1.heap.objs.size + 1 ∨ b = s1.heap.objs.size := by simpa using hb
    have hle : s1.heap.objs.size ≤ b := by
      rcases e' with z | z
      · rw [z]; exact Nat.le_add_right _ _
      · rw [z]; exact Nat.le_refl _
    exact I1.fpOk hle (I1.hok.fresh hle)
end L2
section
namespace Bits
open PySem PyProof.Rows
end Bits
end
section
namespace TL
open PySem PySem.Builtin PySem.Builtin.Str PySem.StrLaws
end TL
end
namespace L2
open PySem PySem.Spec PyProof.Rows
section
variable {X : Cx} {pins : List (Addr × Obj)} {σ : St} {H : Hp} {s : Shared} {Q : VK}
end
section
variable {X : Cx}
end
section
variable {X : Cx} {o e : Expr} {to te : TE}
end
end L2
namespace L2
open PySem PySem.Spec PyProof.Rows
section
variable {X : Cx}
end
end L2
namespace Att
open PySem PySem.W PySem.Calls PyProof.Rows
section
variable {prog : Program} {w : World} {A : Around} {E : Value → Shared → Prop} {s : Shared} {K : Frag}
end
end Att
namespace L2
open PySem PySem.Spec PyProof.Rows
end L2
namespace L2
open PySem PySem.Spec PyProof.Rows
end L2
namespace L2
open PySem PySem.Spec PyProof.Rows
def defArgs (s : Stmt) : Arguments := match s with
  | .FunctionDef _ a _ _ _ _ _ _ _ _ => a
  | _ => { posonlyargs := [], args := [], vararg := none, kwonlyargs := [], kw_defaults := [], kwarg := none, defaults := [] }
def defBody (s : Stmt) : List Stmt := match s with
  | .FunctionDef _ _ b _ _ _ _ _ _ _ => b
  | _ => []
def defScope (s : Stmt) : Scope := match s with
  | .FunctionDef _ _ _ _ _ _ sc _ _ _ => sc
  | _ => { kind := .function, names := [], isGenerator := false, isCoroutine := false }
abbrev CX0 : CXT := fun _ _ _ _ _ _ => False
abbrev E0 : XK := fun _ _ _ => False
theorem pass0 {X : Cx} : Passes CX0 X E0 := fun _ _ _ _ _ _ _ h => h.elim
structure Fun (K : PySem.W.Frag) (x qual : Str) (st : Stmt) (f : Addr) (fd : FuncData) : Prop where
  ex : ∃ (oc : Value) (od : Option Addr) (kV doc pm : Value) (an : Option Addr) (cdv ct : Value) (osl : Array (Option Value)),
    fd = PySem.W.fnOf x qual (defArgs st) (defBody st) (defScope st) .none kV doc pm an cdv ct ∧ K.lookup f = some ⟨oc, od, .func fd, osl⟩ ∧ PySem.W.codeIn K cdv qual = true
  kp : PySem.W.keepIn K (.ref f) = true
section
variable {P : Program} {w : World} {K : PySem.W.Frag} {mg : Str → Option Value} {base : Heap}
theorem Fun.ok {x qual : Str} {st : Stmt} {f : Addr} {fd : FuncData} {N ps : List Str} {k : Nat} {sp : Sp} (F : Fun K x qual st f fd) (S : FnScope N ps (defScope st)) (len : ∀ vs H Q E, sp vs H Q E → vs.length = ps.length)
    (hbody : ∀ (cdv : Value) (A : Around) (outer : List Env) (s : Shared) (H : Hp) (vs : List V) (Q : VK) (E : XK), Room k (A.deeper (envOfC qual (defScope st) s.heap.objs.size f cdv)) → sp vs H Q E →
      ∃ t, PSs (cxOf CX0 P w K mg base N qual (defScope st) f cdv A outer s H E).nox (defBody st) t ∧ t { nx := fun _ H' => Q .non H', rt := Q } (start N vs) H) : FnOk P w K mg base CX0 (k + 1) f fd ps sp := by
  obtain ⟨oc, od, kV, doc, pm, an, cdv, ct, osl, rfl, lk, hcd⟩ := F.ex
  refine fn_of lk hcd S len fun A outer s H vs Q E hr hsp => ?_
  obtain ⟨t, h, q⟩ := hbody cdv A outer s H vs Q E hr hsp
  exact ⟨t, h.nox, q⟩
theorem Fun.binds {x qual : Str} {st : Stmt} {f : Addr} {fd : FuncData} {ps : List Str} (F : Fun K x qual st f fd)
    (h : ∀ (kV doc pm : Value) (an : Option Addr) (cdv ct : Value) (us : List Value), us.length = ps.length → bindArgs (PySem.W.fnOf x qual (defArgs st) (defBody st) (defScope st) .none kV doc pm an cdv ct) ⟨us, []⟩ = pure (ps.zip us)) : Binds K fd ps [] := by
  obtain ⟨oc, od, kV, doc, pm, an, cdv, ct, osl, rfl, lk, hcd⟩ := F.ex
  exact .all (h kV doc pm an cdv ct)
theorem fun_mk {x qual : Str} {st : Stmt} {f : Addr} {oc : Value} {od an : Option Addr} {osl : Array (Option Value)} {kV doc pm cdv ct : Value} (l : K.lookup f = some ⟨oc, od, .func (PySem.W.fnOf x qual (defArgs st) (defBody st) (defScope st) .none kV doc pm an cdv ct), osl⟩)
    (c : PySem.W.codeIn K cdv qual = true) (k : PySem.W.keepIn K (.ref f) = true) : Fun K x qual st f (PySem.W.fnOf x qual (defArgs st) (defBody st) (defScope st) .none kV doc pm an cdv ct) := ⟨⟨oc, od, kV, doc, pm, an, cdv, ct, osl, rfl, l, c⟩, k⟩
end
section
variable {X : Cx}
theorem pv (i : Nat) {x : Str} {pos : Pos} (hN : X.N[i]? = some x := by rfl) (hv : Vis X.env.scope x := by first | exact Or.inl rfl | exact Or.inr (Or.inl rfl) | exact Or.inr (Or.inr rfl)) (hd : (x == ("__debug__" : Str)) = false := by decide)
    (hcd : (x == ("__classdict__" : Str)) = false := by decide) : PE X (.Name x pos) (tVar i) := pe_var hN hv hd hcd
end
theorem iteF {A B : Prop} (h : B) : if false = true then A else B := by
  rw [if_neg Bool.false_ne_true]
  exact h
theorem iteT {A B : Prop} (h : A) : if true = true then A else B := by
  rw [if_pos rfl]
  exact h
def Same (H H' : Hp) : Prop := ∀ b o, H b = some o → H' b = some o
theorem Same.refl (H : Hp) : Same H H := fun _ _ h => h
theorem Same.trans {H H1 H2 : Hp} (a : Same H H1) (b : Same H1 H2) : Same H H2 := fun c o h => b c o (a c o h)
theorem Same.seq {K : PySem.W.Frag} {H H' : Hp} {a : Addr} {xs : List V} (e : Same H H') (h : SqL K H a xs) : SqL K H' a xs := by
  rcases h with (h | ⟨o, h⟩) | h
  · exact .inl (.inl (e _ _ h))
  · exact .inl (.inr ⟨o, e _ _ h⟩)
  · exact .inr h
section
variable {κ : Type} [DecidableEq κ]
end
theorem at_of {xs : List V} {z : Int} {j : Nat} {v : V} (e : z = (j : Int)) (h : xs[j]? = some v) : atI xs z = some v := by
  rw [e]
  exact atI_nat h
end L2
section
set_option Elab.async false
set_option linter.all false
set_option maxRecDepth 100000
set_option maxHeartbeats 2000000
namespace L2
open PySem PySem.Spec PyProof.Rows
open PySem.W (WData Codec OpenSpec Well WellAll ReadsW ReadsAllW)
mutual
inductive Dw (K : PySem.W.Frag) (H : Hp) : V → WData → Prop
  | non : Dw K H .non .none
  | bl (b : Bool) : Dw K H (.bl b) (.bool b)
  | int (i : Int) : Dw K H (.int i) (.int i)
  | str (x : Str) : Dw K H (.str x) (.str x)
  | byt (b : Array UInt8) : Dw K H (.byt b) (.bytes b.toList)
  | lst {a : Addr} {xs : List V} {ds : List WData} : SqL K H a xs → DwAll K H xs ds → Dw K H (.ref a) (.list ds)
  | tup {a : Addr} {xs : List V} {ds : List WData} : SqT K H a xs → DwAll K H xs ds → Dw K H (.ref a) (.tuple ds)
inductive DwAll (K : PySem.W.Frag) (H : Hp) : List V → List WData → Prop
  | nil : DwAll K H [] []
  | cons {v : V} {vs : List V} {d : WData} {ds : List WData} : Dw K H v d → DwAll K H vs ds → DwAll K H (v :: vs) (d :: ds)
end
theorem dw_ints {K : PySem.W.Frag} {H : Hp} : ∀ ns : List Int, DwAll K H (ns.map V.int) (ns.map WData.int)
  | [] => .nil
  | n :: r => .cons (.int n) (dw_ints r)
theorem ints_dw {K : PySem.W.Frag} {H : Hp} : ∀ (ns : List Int) (xs : List V), DwAll K H xs (ns.map WData.int) → xs = ns.map V.int
  | [], xs, h => by
    cases h
    rfl
  | n :: r, xs, h => by
    cases h with
    | cons h1 h2 =>
      cases h1
      rw [ints_dw r _ h2] <;> rfl
section
variable {P : Program} {w : World} {K : PySem.W.Frag} {H : Hp} {h : Heap} {R : PySem.W.WRecords} {cl : Str → Option Addr}
theorem sqL_at {a : Addr} {xs : List V} (hok : HOk P w H h) (KX : K.In h) (q : SqL K H a xs) : ∃ (its : List Value) (o : Obj) (n : Nat), Vals xs its ∧ h.get? a = some o ∧ o.cls = .type "list" ∧ o.data = .seq its.toArray n := by
  rcases q with q | ⟨o, its, n, e, hc, _, hd, _, hv⟩
  · obtain ⟨_, its, n, hv, e⟩ := (show ObjOk P w H h a (.lst xs) from q.ok hok)
    exact ⟨its, _, n, hv, e, rfl, rfl⟩
  · exact ⟨its.toList, o, n, hv, KX _ _ e, hc, by simp [hd]⟩
theorem sqT_at {a : Addr} {xs : List V} (hok : HOk P w H h) (KX : K.In h) (q : SqT K H a xs) : ∃ (its : List Value) (o : Obj) (n : Nat), Vals xs its ∧ h.get? a = some o ∧ o.cls = .type "tuple" ∧ o.data = .seq its.toArray n := by
  rcases q with q | ⟨o, its, n, e, hc, hd, _, hv⟩
  · obtain ⟨_, its, hv, o, e, hc, n, hd⟩ := (show ObjOk P w H h a (.tup xs) from q.ok hok)
    exact ⟨its, o, n, hv, e, hc, hd⟩
  · exact ⟨its.toList, o, n, hv, KX _ _ e, hc, by simp [hd]⟩
mutual
theorem Dw.reads (hok : HOk P w H h) (KX : K.In h) : ∀ (d : WData) (v : V) (u : Value), Dw K H v d → RelV v u → ∃ as, ReadsW R cl h u d as
  | .none, _, _, x, r => by
    cases x
    cases r
    exact ⟨_, ReadsW.none⟩
  | .bool b, _, _, x, r => by
    cases x
    cases r
    exact ⟨_, ReadsW.bool b⟩
  | .int i, _, _, x, r => by
    cases x
    obtain ⟨t, rfl⟩ := r
    exact ⟨_, ReadsW.int i t⟩
  | .str s, _, _, x, r => by
    cases x
    obtain ⟨t, rfl⟩ := r
    exact ⟨_, ReadsW.str s t⟩
  | .bytes b, _, _, x, r => by
    cases x
    obtain ⟨t, rfl⟩ := r
    exact ⟨_, ReadsW.bytes _ t⟩
  | .list ds, _, _, x, r => by
    cases x with
    | lst hs ha =>
      cases r
      obtain ⟨its, o, n, rv, ho, hc, hd⟩ := sqL_at hok KX hs
      obtain ⟨as, hr⟩ := Dw.readsAll hok KX ds _ its ha rv
      exact ⟨_, ReadsW.list ho hc hd hr⟩
  | .tuple ds, _, _, x, r => by
    cases x with
    | tup hs ha =>
      cases r
      obtain ⟨its, o, n, rv, ho, hc, hd⟩ := sqT_at hok KX hs
      obtain ⟨as, hr⟩ := Dw.readsAll hok KX ds _ its ha rv
      exact ⟨_, ReadsW.tuple ho hc hd hr⟩
  | .float _, _, _, x, _ => by cases x
  | .dict _, _, _, x, _ => by cases x
  | .bytearray _, _, _, x, _ => by cases x
  | .set _, _, _, x, _ => by cases x
  | .frozenset _, _, _, x, _ => by cases x
  | .obj _ _, _, _, x, _ => by cases x
theorem Dw.readsAll (hok : HOk P w H h) (KX : K.In h) : ∀ (ds : List WData) (vs : List V) (us : List Value), DwAll K H vs ds → Vals vs us → ∃ as, ReadsAllW R cl h us ds as
  | [], _, _, x, r => by
    cases x
    cases r
    exact ⟨_, ReadsAllW.nil⟩
  | d :: ds, _, _, x, r => by
    cases x with
    | cons h1 h2 =>
      cases r with
      | cons r1 r2 =>
        obtain ⟨as, q1⟩ := Dw.reads hok KX d _ _ h1 r1
        obtain ⟨bs, q2⟩ := Dw.readsAll hok KX ds _ _ h2 r2
        exact ⟨_, ReadsAllW.cons q1 q2⟩
end
end
mutual
def plW : WData → Bool
  | .none => true
  | .bool _ => true
  | .int _ => true
  | .str _ => true
  | .bytes _ => true
  | .list xs => plWs xs
  | .tuple xs => plWs xs
  | _ => false
def plWs : List WData → Bool
  | [] => true
  | x :: r => plW x && plWs r
end
theorem plWs_map {α : Type} {f : α → WData} (h : ∀ a, plW (f a) = true) : ∀ l : List α, plWs (l.map f) = true
  | [] => rfl
  | x :: r => by
    show (plW (f x) && plWs (r.map f)) = true
    rw [h x, plWs_map h r] <;> rfl
theorem pl_enc : ∀ (c : Codec) (a : c.denote), plW (c.enc a) = true
  | .unit, _ => rfl
  | .bool, _ => rfl
  | .int _ _, _ => rfl
  | .nat _ _, _ => rfl
  | .u8, _ => rfl
  | .bytes _ _, _ => rfl
  | .text _ _ _ _, _ => rfl
  | .list _ _ c, a => plWs_map (fun x => pl_enc c x) a
  | .pair c d, a => by
    show (plW (c.enc a.1) && (plW (d.enc a.2) && true)) = true
    rw [pl_enc c a.1, pl_enc d a.2] <;> rfl
  | .triple c d e, a => by
    show (plW (c.enc a.1) && (plW (d.enc a.2.1) && (plW (e.enc a.2.2) && true))) = true
    rw [pl_enc c a.1, pl_enc d a.2.1, pl_enc e a.2.2] <;> rfl
  | .option c, none => rfl
  | .option c, some x => pl_enc c x
theorem pl_encAll : ∀ (cs : List Codec) (a : Codec.denoteAll cs), plWs (Codec.encAll cs a) = true
  | [], _ => rfl
  | c :: cs, a => by
    show (plW (c.enc a.1) && plWs (Codec.encAll cs a.2)) = true
    rw [pl_enc c a.1, pl_encAll cs a.2] <;> rfl
theorem weight_mem : ∀ {xs : List WData} {d : WData}, d ∈ xs → d.weight ≤ WData.weightAll xs
  | [], d, h => absurd h (by simp)
  | x :: r, d, h => by
    show d.weight ≤ x.weight + 1 + WData.weightAll r
    rcases List.mem_cons.mp h with e | m
    · rw [e]
      trivial
    · have z := weight_mem m
      trivial
def toV : Value → V
  | .none => .non
  | .bool b => .bl b
  | .int i _ => .int i
  | .str x _ => .str x
  | .bytes b _ => .byt b
  | .ref a => .ref a
  | _ => .non
def OkU (A : List Addr) : Value → Prop
  | .none => True
  | .bool _ => True
  | .int _ _ => True
  | .str _ _ => True
  | .bytes _ _ => True
  | .ref a => a ∈ A
  | _ => False
theorem OkU.mono {A B : List Addr} (h : ∀ a ∈ A, a ∈ B) : ∀ {u : Value}, OkU A u → OkU B u := fun {u} x => by
  cases u with
  | ref a => exact h a x
  | none => trivial
  | bool b => trivial
  | int i t => trivial
  | str s t => trivial
  | bytes b t => trivial
  | _ => exact False.elim x
theorem relV_toV {A : List Addr} {u : Value} (x : OkU A u) : RelV (toV u) u := by
  cases u with
  | ref a => rfl
  | none => rfl
  | bool b => rfl
  | int i t => exact ⟨t, rfl⟩
  | str s t => exact ⟨t, rfl⟩
  | bytes b t => exact ⟨t, rfl⟩
  | _ => exact False.elim x
theorem vals_toV {A : List Addr} : ∀ {vs : List Value}, (∀ u ∈ vs, OkU A u) → Vals (vs.map toV) vs
  | [], _ => .nil
  | u :: r, h => .cons (relV_toV (h u (List.mem_cons_self ..))) (vals_toV fun x hx => h x (List.mem_cons_of_mem _ hx))
def ArgOb (h : Heap) (A : List Addr) (a : Addr) : Prop := ∃ vs : List Value, vs.length ≤ sizeLine ∧ (∀ u ∈ vs, OkU A u) ∧
  (h.get? a = some { cls := .type "list", data := .seq vs.toArray } ∨ h.get? a = some { cls := .type "tuple", data := .seq vs.toArray })
theorem ArgOb.mono {h : Heap} {A B : List Addr} {a : Addr} (k : ∀ a ∈ A, a ∈ B) (x : ArgOb h A a) : ArgOb h B a := by
  obtain ⟨vs, h1, h2, h3⟩ := x
  exact ⟨vs, h1, fun u hu => (h2 u hu).mono k, h3⟩
theorem wellAll_len {P : Params} {h : Heap} : ∀ {vs : List Value} {ds : List WData}, WellAll P h vs ds → vs.length = ds.length
  | _, _, .nil => rfl
  | _, _, .cons _ b => by
    show _ + 1 = _ + 1
    rw [wellAll_len b]
theorem well_list {P : Params} {h : Heap} {v : Value} {ds : List WData} (x : Well P h v (.list ds)) : ∃ (a : Addr) (vs : List Value), v = .ref a ∧ h.get? a = some { cls := .type "list", data := .seq vs.toArray } ∧ WellAll P h vs ds := by
  cases x with
  | list ho hall => exact ⟨_, _, rfl, ho, hall⟩
theorem well_tuple {P : Params} {h : Heap} {v : Value} {ds : List WData} (x : Well P h v (.tuple ds)) : ∃ (a : Addr) (vs : List Value), v = .ref a ∧ h.get? a = some { cls := .type "tuple", data := .seq vs.toArray } ∧ WellAll P h vs ds := by
  cases x with
  | tuple ho hall => exact ⟨_, _, rfl, ho, hall⟩
theorem well_cons {P : Params} {h : Heap} {us : List Value} {d : WData} {ds : List WData} (x : WellAll P h us (d :: ds)) : ∃ (v : Value) (vs : List Value), us = v :: vs ∧ Well P h v d ∧ WellAll P h vs ds := by
  cases x with
  | cons a b => exact ⟨_, _, rfl, a, b⟩
theorem line_of {n : Nat} (h : n ≤ 1048576) : n ≤ sizeLine := Nat.le_trans h (by decide)
section
variable {P : Params} {h : Heap}
mutual
theorem area_one : ∀ (d : WData) (v : Value), Well P h v d → plW d = true → d.weight ≤ 1048576 → ∃ A : List Addr, OkU A v ∧ ∀ a ∈ A, ArgOb h A a
  | .none, _, x, _, _ => by
    cases x
    exact ⟨[], trivial, fun a m => absurd m (by simp)⟩
  | .bool b, _, x, _, _ => by
    cases x
    exact ⟨[], trivial, fun a m => absurd m (by simp)⟩
  | .int i, _, x, _, _ => by
    cases x
    exact ⟨[], trivial, fun a m => absurd m (by simp)⟩
  | .str s, _, x, _, _ => by
    cases x
    exact ⟨[], trivial, fun a m => absurd m (by simp)⟩
  | .bytes b, _, x, _, _ => by
    cases x
    exact ⟨[], trivial, fun a m => absurd m (by simp)⟩
  | .list ds, _, x, p, z => by
    obtain ⟨a, vs, rfl, ho, hall⟩ := well_list x
    have z2 : WData.weightAll ds ≤ 1048576 := z
    obtain ⟨A, h1, h2⟩ := area_all ds _ hall p fun d hd => Nat.le_trans (weight_mem hd) z2
    have k : ∀ b ∈ A, b ∈ a :: A := fun b hb => List.mem_cons_of_mem _ hb
    refine ⟨a :: A, List.mem_cons_self .., fun b hb => ?_⟩
    rcases List.mem_cons.mp hb with e | m
    · rw [e]
      exact ⟨vs, line_of (by rw [wellAll_len hall]; exact Nat.le_trans (PySem.W.length_le_weightAllW ds) z2), fun u hu => (h1 u hu).mono k, .inl ho⟩
    · exact (h2 b m).mono k
  | .tuple ds, _, x, p, z => by
    obtain ⟨a, vs, rfl, ho, hall⟩ := well_tuple x
    have z2 : WData.weightAll ds ≤ 1048576 := z
    obtain ⟨A, h1, h2⟩ := area_all ds _ hall p fun d hd => Nat.le_trans (weight_mem hd) z2
    have k : ∀ b ∈ A, b ∈ a :: A := fun b hb => List.mem_cons_of_mem _ hb
    refine ⟨a :: A, List.mem_cons_self .., fun b hb => ?_⟩
    rcases List.mem_cons.mp hb with e | m
    · rw [e]
      exact ⟨vs, line_of (by rw [wellAll_len hall]; exact Nat.le_trans (PySem.W.length_le_weightAllW ds) z2), fun u hu => (h1 u hu).mono k, .inr ho⟩
    · exact (h2 b m).mono k
  | .float _, _, _, p, _ => Bool.noConfusion (show false = true from p)
  | .dict _, _, _, p, _ => Bool.noConfusion (show false = true from p)
  | .bytearray _, _, _, p, _ => Bool.noConfusion (show false = true from p)
  | .set _, _, _, p, _ => Bool.noConfusion (show false = true from p)
  | .frozenset _, _, _, p, _ => Bool.noConfusion (show false = true from p)
  | .obj _ _, _, _, p, _ => Bool.noConfusion (show false = true from p)
theorem area_all : ∀ (ds : List WData) (vs : List Value), WellAll P h vs ds → plWs ds = true → (∀ d ∈ ds, d.weight ≤ 1048576) → ∃ A : List Addr, (∀ u ∈ vs, OkU A u) ∧ ∀ a ∈ A, ArgOb h A a
  | [], _, x, _, _ => by
    cases x
    exact ⟨[], fun u m => absurd m (by simp), fun a m => absurd m (by simp)⟩
  | d :: ds, _, x, p, z => by
    obtain ⟨v, vs, rfl, x1, x2⟩ := well_cons x
    have q : plW d = true ∧ plWs ds = true := Bool.and_eq_true_iff.mp p
    obtain ⟨A, a1, a2⟩ := area_one d v x1 q.1 (z d (List.mem_cons_self ..))
    obtain ⟨B, b1, b2⟩ := area_all ds vs x2 q.2 fun e he => z e (List.mem_cons_of_mem _ he)
    have kA : ∀ b ∈ A, b ∈ A ++ B := fun b hb => List.mem_append.mpr (.inl hb)
    have kB : ∀ b ∈ B, b ∈ A ++ B := fun b hb => List.mem_append.mpr (.inr hb)
    refine ⟨A ++ B, fun u hu => ?_, fun b hb => ?_⟩
    · rcases List.mem_cons.mp hu with e | m
      · rw [e]
        exact a1.mono kA
      · exact (b1 u m).mono kB
    · rcases List.mem_append.mp hb with m | m
      · exact (a2 b m).mono kA
      · exact (b2 b m).mono kB
end
end
def hoOf (o : Obj) : Option HO := match o.data with
  | .seq vs _ => if (o.cls == Value.type "list") = true then some (.frz o (.lst (vs.toList.map toV))) else some (.frz o (.tup (vs.toList.map toV)))
  | _ => none
def argH (K : PySem.W.Frag) (h : Heap) (A : List Addr) : Hp := fun b => if b ∈ A then (if (K.lookup b).isNone = true then (h.get? b).bind hoOf else none) else none
def OnlyF (H : Hp) : Prop := ∀ b, H b = none ∨ ∃ o u, H b = some (.frz o u)
theorem hoOf_lst (vs : List Value) : hoOf { cls := .type "list", data := .seq vs.toArray } = some (.frz { cls := .type "list", data := .seq vs.toArray } (.lst (vs.map toV))) := by
  show (if (Value.type "list" == Value.type "list") = true then some (HO.frz { cls := .type "list", data := .seq vs.toArray } (.lst (vs.toArray.toList.map toV))) else some (HO.frz { cls := .type "list", data := .seq vs.toArray } (.tup (vs.toArray.toList.map toV)))) = _
  rw [if_pos (beq_self_eq_true _)]
theorem hoOf_tup (vs : List Value) : hoOf { cls := .type "tuple", data := .seq vs.toArray } = some (.frz { cls := .type "tuple", data := .seq vs.toArray } (.tup (vs.map toV))) := by
  show (if (Value.type "tuple" == Value.type "list") = true then some (HO.frz { cls := .type "tuple", data := .seq vs.toArray } (.lst (vs.toArray.toList.map toV))) else some (HO.frz { cls := .type "tuple", data := .seq vs.toArray } (.tup (vs.toArray.toList.map toV)))) = _
  rw [if_neg (by decide)]
section
variable {P : Program} {w : World} {K : PySem.W.Frag} {h : Heap} {A : List Addr}
theorem argH_at {b : Addr} {o : Obj} (hb : b ∈ A) (hk : K.lookup b = none) (e : h.get? b = some o) : argH K h A b = hoOf o := by
  unfold argH
  rw [if_pos hb, hk, if_pos (show (none : Option Obj).isNone = true from rfl), e] <;> rfl
theorem of_argH {b : Addr} {u : HO} (q : argH K h A b = some u) : b ∈ A ∧ K.lookup b = none := by
  unfold argH at q
  by_cases hb : b ∈ A
  · rw [if_pos hb] at q
    cases hk : K.lookup b with
    | none => exact ⟨hb, rfl⟩
    | some o =>
      rw [hk, if_neg (by simp)] at q
      cases q
  · rw [if_neg hb] at q
    cases q
theorem argH_is (ar : ∀ a ∈ A, ArgOb h A a) {b : Addr} {u : HO} (q : argH K h A b = some u) : K.lookup b = none ∧ ∃ vs : List Value, vs.length ≤ sizeLine ∧ (∀ u ∈ vs, OkU A u) ∧
    ((h.get? b = some { cls := .type "list", data := .seq vs.toArray } ∧ u = .frz { cls := .type "list", data := .seq vs.toArray } (.lst (vs.map toV))) ∨
     (h.get? b = some { cls := .type "tuple", data := .seq vs.toArray } ∧ u = .frz { cls := .type "tuple", data := .seq vs.toArray } (.tup (vs.map toV)))) := by
  obtain ⟨hb, hk⟩ := of_argH q
  obtain ⟨vs, h1, h2, h3⟩ := ar b hb
  refine ⟨hk, vs, h1, h2, ?_⟩
  rcases h3 with e | e
  · rw [argH_at hb hk e, hoOf_lst] at q
    exact .inl ⟨e, (Option.some.inj q).symm⟩
  · rw [argH_at hb hk e, hoOf_tup] at q
    exact .inr ⟨e, (Option.some.inj q).symm⟩
theorem argH_only (ar : ∀ a ∈ A, ArgOb h A a) : OnlyF (argH K h A) := fun b => by
  cases q : argH K h A b with
  | none => exact .inl rfl
  | some u =>
    obtain ⟨_, vs, _, _, ⟨_, e⟩ | ⟨_, e⟩⟩ := argH_is ar q
    · exact .inr ⟨_, _, by rw [e]⟩
    · exact .inr ⟨_, _, by rw [e]⟩
theorem argH_ok (ar : ∀ a ∈ A, ArgOb h A a) : HOk P w (argH K h A) h := fun b u q => by
  obtain ⟨_, vs, h1, h2, ⟨e, rfl⟩ | ⟨e, rfl⟩⟩ := argH_is ar q
  · exact ⟨e, by rw [List.length_map]; exact h1, vs, _, vals_toV h2, e⟩
  · exact ⟨e, by rw [List.length_map]; exact h1, vs, vals_toV h2, _, e, rfl, _, rfl⟩
theorem seq_inj {c c' : Value} {vs us : List Value} (e : (some { cls := c, data := .seq vs.toArray } : Option Obj) = some { cls := c', data := .seq us.toArray }) : c = c' ∧ vs = us := by
  have e1 := Option.some.inj e
  have e2 : c = c' := congrArg Obj.cls e1
  have e3 : Data.seq vs.toArray = Data.seq us.toArray := congrArg Obj.data e1
  injection e3 with e4
  refine ⟨e2, ?_⟩
  have e5 := congrArg Array.toList e4
  simpa using e5
theorem argL (KX : K.In h) (ar : ∀ a ∈ A, ArgOb h A a) {a : Addr} {vs : List Value} (ha : a ∈ A) (e : h.get? a = some { cls := .type "list", data := .seq vs.toArray }) : (∀ u ∈ vs, OkU A u) ∧ SqL K (argH K h A) a (vs.map toV) := by
  obtain ⟨us, h1, h2, h3⟩ := ar a ha
  have hu : us = vs := by
    rcases h3 with q | q
    · rw [e] at q
      exact (seq_inj q).2.symm
    · rw [e] at q
      exact absurd (Value.type.inj (seq_inj q).1) (by decide)
  subst hu
  refine ⟨h2, ?_⟩
  cases hk : K.lookup a with
  | none => exact .inl (.inr ⟨_, by rw [argH_at ha hk e, hoOf_lst]⟩)
  | some o =>
    have e2 := KX a o hk
    rw [e] at e2
    obtain rfl := Option.some.inj e2
    exact .inr ⟨_, us.toArray, _, hk, rfl, rfl, rfl, by rw [List.size_toArray]; exact h1, by simpa using vals_toV h2⟩
theorem argT (KX : K.In h) (ar : ∀ a ∈ A, ArgOb h A a) {a : Addr} {vs : List Value} (ha : a ∈ A) (e : h.get? a = some { cls := .type "tuple", data := .seq vs.toArray }) : (∀ u ∈ vs, OkU A u) ∧ SqT K (argH K h A) a (vs.map toV) := by
  obtain ⟨us, h1, h2, h3⟩ := ar a ha
  have hu : us = vs := by
    rcases h3 with q | q
    · rw [e] at q
      exact absurd (Value.type.inj (seq_inj q).1) (by decide)
    · rw [e] at q
      exact (seq_inj q).2.symm
  subst hu
  refine ⟨h2, ?_⟩
  cases hk : K.lookup a with
  | none => exact .inl (.inr ⟨_, by rw [argH_at ha hk e, hoOf_tup]⟩)
  | some o =>
    have e2 := KX a o hk
    rw [e] at e2
    obtain rfl := Option.some.inj e2
    exact .inr ⟨_, us.toArray, _, hk, rfl, rfl, by rw [List.size_toArray]; exact h1, by simpa using vals_toV h2⟩
mutual
theorem dw_one {Pm : Params} (KX : K.In h) (ar : ∀ a ∈ A, ArgOb h A a) : ∀ (d : WData) (v : Value), Well Pm h v d → plW d = true → OkU A v → Dw K (argH K h A) (toV v) d
  | .none, _, x, _, _ => by
    cases x
    exact .non
  | .bool b, _, x, _, _ => by
    cases x
    exact .bl b
  | .int i, _, x, _, _ => by
    cases x
    exact .int i
  | .str s, _, x, _, _ => by
    cases x
    exact .str s
  | .bytes b, _, x, _, _ => by
    cases x
    have z := Dw.byt (K := K) (H := argH K h A) b.toArray
    exact z
  | .list ds, _, x, p, hu => by
    obtain ⟨a, vs, rfl, ho, hall⟩ := well_list x
    obtain ⟨h2, hs⟩ := argL KX ar hu ho
    exact .lst hs (dw_all KX ar ds _ hall p h2)
  | .tuple ds, _, x, p, hu => by
    obtain ⟨a, vs, rfl, ho, hall⟩ := well_tuple x
    obtain ⟨h2, hs⟩ := argT KX ar hu ho
    exact .tup hs (dw_all KX ar ds _ hall p h2)
  | .float _, _, _, p, _ => Bool.noConfusion (show false = true from p)
  | .dict _, _, _, p, _ => Bool.noConfusion (show false = true from p)
  | .bytearray _, _, _, p, _ => Bool.noConfusion (show false = true from p)
  | .set _, _, _, p, _ => Bool.noConfusion (show false = true from p)
  | .frozenset _, _, _, p, _ => Bool.noConfusion (show false = true from p)
  | .obj _ _, _, _, p, _ => Bool.noConfusion (show false = true from p)
theorem dw_all {Pm : Params} (KX : K.In h) (ar : ∀ a ∈ A, ArgOb h A a) : ∀ (ds : List WData) (vs : List Value), WellAll Pm h vs ds → plWs ds = true → (∀ u ∈ vs, OkU A u) → DwAll K (argH K h A) (vs.map toV) ds
  | [], _, x, _, _ => by
    cases x
    exact .nil
  | d :: ds, _, x, p, hu => by
    obtain ⟨v, vs, rfl, x1, x2⟩ := well_cons x
    have q : plW d = true ∧ plWs ds = true := Bool.and_eq_true_iff.mp p
    exact .cons (dw_one KX ar d v x1 q.1 (hu _ (List.mem_cons_self ..))) (dw_all KX ar ds vs x2 q.2 fun u m => hu u (List.mem_cons_of_mem _ m))
end
end
theorem spec_call {P : Program} {w : World} {K : PySem.W.Frag} {mg mb : Str → Option Value} {CX : CXT} {k : Nat} {fa : Addr} {fd : FuncData} {ps : List Str} {sp : Sp} {s₁ : Shared} {vals : List Value} {ds : List WData} {R : PySem.W.WRecords} {cl : Str → Option Addr} {d0 : WData}
    (KX : K.In s₁.heap) (hns : s₁.heap.Ns mainGlobals mg) (hb : s₁.heap.Ns builtinsNs mb) (hbb : ∀ x : Str, x ≠ "__name__" → mb x = bootBuiltins x) (hlim : s₁.heap.NoLimit) (hg : s₁.gens = #[])
    (hwl : WellAll w.params s₁.heap vals ds) (hpl : plWs ds = true) (hwt : ∀ d ∈ ds, d.weight ≤ 1048576) (hr : Room k callerA)
    (F : ∀ base : Heap, K.In base → base.Ns mainGlobals mg → FnOk P w K mg base CX k fa fd ps sp) (hbind : ∀ (s : Shared) (us : List Value), us.length = ps.length → BindsTo s fd ⟨us, []⟩ (ps.zip us)) (hlen : ds.length = ps.length)
    (hsp : ∀ (H : Hp) (xs : List V), OnlyF H → DwAll K H xs ds → sp xs H (fun v H' => Dw K H' v d0) fun _ _ _ => False)
    (hCX : ∀ H e s', CX [] H s₁ (fun _ _ _ => False) e s' → False) :
    codeAny (model P w) callerA (.call (.ref fa) ⟨vals, []⟩) (fun r s' => ∃ u as, r = .ok (.ret u) ∧ ReadsW R cl s'.heap u d0 as ∧ OldK s₁.heap s'.heap ∧ s'.os = s₁.os ∧ AllBare s'.gens) s₁ := by
  obtain ⟨A, ho, ar⟩ := area_all ds vals hwl hpl hwt
  have hO : OnlyF (argH K s₁.heap A) := argH_only ar
  have hok : HOk P w (argH K s₁.heap A) s₁.heap := argH_ok ar
  have hS := dw_all KX ar ds vals hwl hpl ho
  have hV := vals_toV ho
  have hK : ∀ b u, argH K s₁.heap A b = some u → K.lookup b = none := fun b u q => (argH_is ar q).1
  have noA : ∀ {b : Addr} {o : Obj} {es : Array DictEntry} {ep : Nat}, s₁.heap.get? b = some o → o.data = .dict es ep → argH K s₁.heap A b = none := fun {b o es ep} e d => by
    cases q : argH K s₁.heap A b with
    | none => rfl
    | some u =>
      obtain ⟨_, vs, _, _, ⟨e2, _⟩ | ⟨e2, _⟩⟩ := argH_is ar q
      · rw [e2] at e
        cases e
        have d' : Data.seq vs.toArray _ = Data.dict es ep := d
        cases d'
      · rw [e2] at e
        cases e
        have d' : Data.seq vs.toArray _ = Data.dict es ep := d
        cases d'
  generalize argH K s₁.heap A = H at hO hok hS hK noA
  have base_of : ∀ {b : Addr} {o : Obj}, s₁.heap.get? b = some o → H b = none → (hidT s₁.heap H).get? b = some o := fun e n => hidT_get e n
  have nsK : ∀ {b : Addr} {m : Str → Option Value}, s₁.heap.Ns b m → (hidT s₁.heap H).Ns b m := fun {b m} ⟨o, es, ep, e, d, r⟩ => ⟨o, es, ep, base_of e (noA e d), d, r⟩
  have nK : ∀ b o, K.lookup b = some o → H b = none := fun b o e => by
    cases q : H b with
    | none => rfl
    | some u =>
      rw [hK b u q] at e
      cases e
  have hKb : K.In (hidT s₁.heap H) := fun b o e => base_of (KX b o e) (nK b o e)
  have hM : Mod K mg (hidT s₁.heap H) := ⟨hKb, nsK hns, ⟨mb, nsK hb, hbb⟩, let ⟨mc, h1, h2⟩ := hlim; ⟨mc, nsK h1, h2⟩⟩
  have e0 : Env0 P w K mg (hidT s₁.heap H) callerA [] s₁ H := ⟨rfl, hM, fun b o e => of_hidT e, Nat.le_of_eq (hidT_size _ _), trivial, fun b hb => absurd (show b ∈ ([] : List Addr) from hb) (by simp), hok, .of_eq hg⟩
  have hl : vals.length = ps.length := by rw [wellAll_len hwl]; exact hlen
  refine codeAny_mono ((F _ hKb (nsK hns)).run callerA [] s₁ H ⟨vals, []⟩ vals (vals.map toV) _ _ hr e0 (hbind s₁ vals hl) hV (hsp H _ hO hS)) fun r s' x => ?_
  cases r with
  | error e => exact (hCX H e s' x).elim
  | ok fl =>
    cases fl with
    | next => exact False.elim x
    | brk => exact False.elim x
    | cont => exact False.elim x
    | ret u =>
      obtain ⟨v, H', os, bare, un, hok', r', q⟩ := x
      have kept : ∀ b o, s₁.heap.get? b = some o → s'.heap.get? b = some o := fun b o e => by
        cases q2 : H b with
        | none => exact un.keep b o e q2 (by intro z; exact absurd (show b ∈ ([] : List Addr) from z) (by simp)) (by simp)
        | some u2 =>
          rcases hO b with z | ⟨ob, u3, z⟩
          · rw [q2] at z
            cases z
          · have z2 := un.frzs b ob _ z
            obtain ⟨e1, _⟩ := hok b _ z
            obtain ⟨e2, _⟩ := hok' b _ z2
            rw [e] at e1
            cases e1
            exact e2
      have KX' : K.In s'.heap := fun b o e => kept b o (KX b o e)
      obtain ⟨as, hrd⟩ := Dw.reads (R := R) (cl := cl) hok' KX' d0 v u q r'
      exact ⟨u, as, rfl, hrd, OldK.of_keep kept, os, bare⟩
theorem layable_weight {ds : List WData} (h : WData.layableAll ds = true) : ∀ d ∈ ds, d.weight ≤ 1048576 := fun d hd =>
  (PySem.W.layableW_iff.mp (List.all_eq_true.mp h d hd)).2.2
theorem encAll_len : ∀ (cs : List Codec) (a : Codec.denoteAll cs), (Codec.encAll cs a).length = cs.length
  | [], _ => rfl
  | c :: cs, a => by
    show (Codec.encAll cs a.2).length + 1 = cs.length + 1
    rw [encAll_len cs a.2]
theorem walk_spec {r : OpenSpec} {k : Nat} {q : Program} {loose : List Str} {XP : (Str → Option Value) → Heap → Prop} {YP : World → Heap → Prop} {d : DefRec} {K : Params → PySem.W.Frag} {CX : World → CXT} {ps : List Str} {sp : World → Sp}
    (hwell : r.wellSaid = true) (hdf : d.params.defaults = []) (hlen : r.args.length = ps.length) (hr : Room k callerA)
    (hY : ∀ (w : World) (h : Heap), YP w h → (K w.params).In h)
    (F : ∀ (w : World) (mg : Str → Option Value) (fa : Addr) (h : Heap), YP w h → (K w.params).In h → h.Ns mainGlobals mg → mg d.name = some (.ref fa) →
      ∃ fd : FuncData, (∀ (s : Shared) (us : List Value), us.length = ps.length → BindsTo s fd ⟨us, []⟩ (ps.zip us)) ∧
        ∀ base : Heap, (K w.params).In base → base.Ns mainGlobals mg → FnOk r.prog w (K w.params) mg base (CX w) k fa fd ps (sp w))
    (hsp : ∀ (w : World) (H : Hp) (xs : List V) (a : Codec.denoteAll r.args), OnlyF H → Codec.withinAll r.args a = true → Codec.app r.args r.asked a = true → DwAll (K w.params) H xs (Codec.encAll r.args a) →
      sp w xs H (fun v H' => Dw (K w.params) H' v (r.ret.enc (Codec.app r.args r.f a))) fun _ _ _ => False)
    (hCX : ∀ (w : World) (H : Hp) (s : Shared) (e : Value) (s' : Shared), CX w [] H s (fun _ _ _ => False) e s' → False) :
    PySem.W.WalkOS q loose XP YP r d [] (fun f vs => PySem.call f vs) := by
  intro w s_0 s₁ mg mb G Y fa o pm cd doc dV kV ho hd hcd hD hmg hg args vals as hpre hlay hrd hwl hlo
  obtain ⟨a, e1, e2⟩ := PySem.W.os_pre_some hpre
  obtain ⟨e3, hwi⟩ := Codec.encAll_of_decAll r.args args a e1
  subst e3
  have KX := hY w _ Y
  obtain ⟨fd, hb, hF⟩ := F w mg fa _ Y KX G.T.g hmg
  refine PySem.W.enter_call (codeAny_mono (spec_call (R := []) (cl := classAt s_0.heap) (d0 := r.ret.enc (Codec.app r.args r.f a)) KX G.T.g G.T.b G.T.builtins G.T.nolimit hg hwl (pl_encAll _ _) (layable_weight hlay) hr hF hb (by rw [encAll_len]; exact hlen)
    (fun H xs hO hS => hsp w H xs a hO hwi e2 hS) fun H e s' => hCX w H s₁ e s') fun r' s' hq => ?_)
  obtain ⟨u, as', rfl, h1, h2, h3, h4⟩ := hq
  exact ⟨.inl ⟨u, _, as', rfl, fun _ => rfl, h1, (OpenSpec.post_iff hwell hwi _ _).mpr rfl, fun z => Bool.noConfusion (show false = true from z)⟩, h2, h3, h4⟩
theorem walk_specK {r : OpenSpec} {k : Nat} {q : Program} {loose : List Str} {XP : (Str → Option Value) → Heap → Prop} {YP : World → Heap → Prop} {d : DefRec} {K : Params → PySem.W.Frag} {CX : CXT} {ps : List Str} {sp : PySem.W.Frag → Sp}
    (hwell : r.wellSaid = true) (hdf : d.params.defaults = []) (hlen : r.args.length = ps.length) (hr : Room k callerA)
    (hY : ∀ (w : World) (h : Heap), YP w h → (K w.params).In h)
    (F : ∀ (w : World) (mg : Str → Option Value) (fa : Addr) (h : Heap), YP w h → (K w.params).In h → h.Ns mainGlobals mg → mg d.name = some (.ref fa) →
      ∃ fd : FuncData, (∀ (s : Shared) (us : List Value), us.length = ps.length → BindsTo s fd ⟨us, []⟩ (ps.zip us)) ∧
        ∀ base : Heap, (K w.params).In base → base.Ns mainGlobals mg → FnOk r.prog w (K w.params) mg base CX k fa fd ps (sp (K w.params)))
    (hsp : ∀ (K : PySem.W.Frag) (H : Hp) (xs : List V) (a : Codec.denoteAll r.args), OnlyF H → Codec.withinAll r.args a = true → Codec.app r.args r.asked a = true → DwAll K H xs (Codec.encAll r.args a) →
      sp K xs H (fun v H' => Dw K H' v (r.ret.enc (Codec.app r.args r.f a))) fun _ _ _ => False)
    (hCX : ∀ (H : Hp) (s : Shared) (e : Value) (s' : Shared), CX [] H s (fun _ _ _ => False) e s' → False) :
    PySem.W.WalkOS q loose XP YP r d [] (fun f vs => PySem.call f vs) :=
  walk_spec (K := K) (CX := fun _ => CX) (sp := fun w => sp (K w.params)) hwell hdf hlen hr hY F (fun w H xs a h1 h2 h3 h4 => hsp (K w.params) H xs a h1 h2 h3 h4) fun _ H s e s' => hCX H s e s'
end L2
end
end
section
local macro_rules | `(tactic| trivial) => `(tactic| first | lia -abstractProof | omega)
set_option linter.unusedVariables false
namespace Geo
abbrev V := Int × Int
def sd (a b p : V) : Int := (b.1 - a.1) * (p.2 - a.2) - (b.2 - a.2) * (p.1 - a.1)
def sg (a b p : V) : Int := (if a.2 ≤ p.2 ∧ p.2 < b.2 ∧ 0 < sd a b p then 1 else 0) - (if b.2 ≤ p.2 ∧ p.2 < a.2 ∧ sd a b p < 0 then 1 else 0)
def g (p q v : V) : Int := if p.2 < v.2 ∧ v.2 ≤ q.2 ∧ sd p q v < 0 then 1 else 0
def G (p q v : V) : Int := g p q v - g q p v
def hh (a b : V) : Int := if a.2 < b.2 ∨ (a.2 = b.2 ∧ b.1 < a.1) then 1 else 0
def lm (a b c d : V) : Prop :=
  (min a.1 b.1 ≤ max c.1 d.1 ∧ min c.1 d.1 ≤ max a.1 b.1) ∧ (min a.2 b.2 ≤ max c.2 d.2 ∧ min c.2 d.2 ≤ max a.2 b.2)
  ∧ sd a b c * sd a b d ≤ 0 ∧ sd c d a * sd c d b ≤ 0
instance (a b c d : V) : Decidable (lm a b c d) := by unfold lm; infer_instance
theorem pos_of {k A : Int} (hk : 0 ≤ k) (h : 0 < k * A) : 0 < A := by
  rcases Int.lt_or_le 0 A with h1 | h1
  · exact h1
  · have := Int.mul_nonneg hk (show 0 ≤ -A by trivial)
    rw [Int.mul_neg] at this
    trivial
theorem neg_of {k A : Int} (hk : 0 ≤ k) (h : k * A < 0) : A < 0 := by
  rcases Int.lt_or_le A 0 with h1 | h1
  · exact h1
  · have := Int.mul_nonneg hk h1
    trivial
theorem mul_neg_iff' {A B : Int} : A * B < 0 ↔ (0 < A ∧ B < 0) ∨ (A < 0 ∧ 0 < B) := by
  constructor
  · intro h
    rcases Int.lt_trichotomy A 0 with h1 | h1 | h1
    · right; refine ⟨h1, ?_⟩
      apply pos_of (k := -A) (by trivial)
      rw [Int.neg_mul]; trivial
    · subst h1; simp at h
    · left; exact ⟨h1, neg_of (by trivial) h⟩
  · rintro (⟨h1, h2⟩ | ⟨h1, h2⟩)
    · have := Int.mul_pos h1 (show 0 < -B by trivial)
      rw [Int.mul_neg] at this; trivial
    · have := Int.mul_pos (show 0 < -A by trivial) h2
      rw [Int.neg_mul] at this; trivial
theorem mul_pos_iff' {A B : Int} : 0 < A * B ↔ (0 < A ∧ 0 < B) ∨ (A < 0 ∧ B < 0) := by
  have := @mul_neg_iff' A (-B)
  rw [Int.mul_neg] at this
  constructor
  · intro h
    have := this.1 (by trivial)
    trivial
  · intro h
    have := this.2 (by trivial)
    trivial
theorem mul_nonpos_iff' {A B : Int} : A * B ≤ 0 ↔ (0 ≤ A ∧ B ≤ 0) ∨ (A ≤ 0 ∧ 0 ≤ B) := by
  have h1 := @mul_pos_iff' A B
  constructor
  · intro h
    have : ¬ (0 < A * B) := by trivial
    rw [h1] at this
    trivial
  · intro h
    have : ¬ ((0 < A ∧ 0 < B) ∨ (A < 0 ∧ B < 0)) := by trivial
    rw [← h1] at this
    trivial
theorem sg_swap (a b p : V) : sg b a p = - sg a b p := by
  have : sd b a p = - sd a b p := by simp only [sd]; grind -abstractProof
  unfold sg
  rw [this]
  have e1 : (0 < - sd a b p) ↔ sd a b p < 0 := by trivial
  have e2 : (- sd a b p < 0) ↔ 0 < sd a b p := by trivial
  simp only [e1, e2]
  trivial
theorem G_swap (p q v : V) : G q p v = - G p q v := by unfold G; trivial
theorem edge_R (p q a b : V) (R : Prop) (hpq : p.2 ≤ q.2) (hab : a.2 ≤ b.2)
  (F1 : a.2 ≤ p.2 → p.2 < b.2 → (0 < sd a b p ↔ R)) (F2 : a.2 ≤ q.2 → q.2 < b.2 → (0 < sd a b q ↔ R))
  (F3 : p.2 < b.2 → b.2 ≤ q.2 → (sd p q b < 0 ↔ R)) (F4 : p.2 < a.2 → a.2 ≤ q.2 → (sd p q a < 0 ↔ R)) :
  sg a b p - sg a b q = G p q b - G p q a := by
  have k1 : ¬ (b.2 ≤ p.2 ∧ p.2 < a.2 ∧ sd a b p < 0) := by trivial
  have k2 : ¬ (b.2 ≤ q.2 ∧ q.2 < a.2 ∧ sd a b q < 0) := by trivial
  have k3 : ¬ (q.2 < b.2 ∧ b.2 ≤ p.2 ∧ sd q p b < 0) := by trivial
  have k4 : ¬ (q.2 < a.2 ∧ a.2 ≤ p.2 ∧ sd q p a < 0) := by trivial
  have e1 : (a.2 ≤ p.2 ∧ p.2 < b.2 ∧ 0 < sd a b p) ↔ (a.2 ≤ p.2 ∧ p.2 < b.2 ∧ R) :=
    ⟨fun ⟨x, y, z⟩ => ⟨x, y, (F1 x y).1 z⟩, fun ⟨x, y, z⟩ => ⟨x, y, (F1 x y).2 z⟩⟩
  have e2 : (a.2 ≤ q.2 ∧ q.2 < b.2 ∧ 0 < sd a b q) ↔ (a.2 ≤ q.2 ∧ q.2 < b.2 ∧ R) :=
    ⟨fun ⟨x, y, z⟩ => ⟨x, y, (F2 x y).1 z⟩, fun ⟨x, y, z⟩ => ⟨x, y, (F2 x y).2 z⟩⟩
  have e3 : (p.2 < b.2 ∧ b.2 ≤ q.2 ∧ sd p q b < 0) ↔ (p.2 < b.2 ∧ b.2 ≤ q.2 ∧ R) :=
    ⟨fun ⟨x, y, z⟩ => ⟨x, y, (F3 x y).1 z⟩, fun ⟨x, y, z⟩ => ⟨x, y, (F3 x y).2 z⟩⟩
  have e4 : (p.2 < a.2 ∧ a.2 ≤ q.2 ∧ sd p q a < 0) ↔ (p.2 < a.2 ∧ a.2 ≤ q.2 ∧ R) :=
    ⟨fun ⟨x, y, z⟩ => ⟨x, y, (F4 x y).1 z⟩, fun ⟨x, y, z⟩ => ⟨x, y, (F4 x y).2 z⟩⟩
  unfold sg G g
  rw [if_neg k1, if_neg k2, if_neg k3, if_neg k4]
  by_cases hR : R
  · simp only [hR, and_true] at e1 e2 e3 e4
    simp only [e1, e2, e3, e4]
    split <;> split <;> split <;> split <;> trivial
  · simp only [hR, and_false, iff_false] at e1 e2 e3 e4
    simp only [if_neg e1, if_neg e2, if_neg e3, if_neg e4]
theorem I1 (p q a b : V) : (b.2 - p.2) * sd p q a + (p.2 - a.2) * sd p q b = (q.2 - p.2) * (- sd a b p) := by simp only [sd]; grind -abstractProof
theorem I2 (p q a b : V) : (b.2 - q.2) * sd p q a + (q.2 - a.2) * sd p q b = (q.2 - p.2) * (- sd a b q) := by simp only [sd]; grind -abstractProof
theorem I3 (p q a b : V) : (q.2 - b.2) * sd a b p + (b.2 - p.2) * sd a b q = (b.2 - a.2) * (- sd p q b) := by simp only [sd]; grind -abstractProof
theorem I4 (p q a b : V) : (q.2 - a.2) * sd a b p + (a.2 - p.2) * sd a b q = (b.2 - a.2) * (- sd p q a) := by simp only [sd]; grind -abstractProof
theorem right_of (a b p : V) (h1 : a.2 ≤ p.2) (h2 : p.2 < b.2) (h3 : p.1 < a.1) (h4 : p.1 < b.1) : 0 < sd a b p := by
  have e : sd a b p = (b.1 - p.1) * (p.2 - a.2) + (a.1 - p.1) * (b.2 - p.2) := by simp only [sd]; grind -abstractProof
  have := Int.mul_nonneg (show 0 ≤ b.1 - p.1 by trivial) (show 0 ≤ p.2 - a.2 by trivial)
  have := Int.mul_pos (show 0 < a.1 - p.1 by trivial) (show 0 < b.2 - p.2 by trivial)
  trivial
theorem left_of (a b p : V) (h1 : a.2 ≤ p.2) (h2 : p.2 < b.2) (h3 : a.1 < p.1) (h4 : b.1 < p.1) : sd a b p < 0 := by
  have e : sd a b p = -((p.1 - b.1) * (p.2 - a.2) + (p.1 - a.1) * (b.2 - p.2)) := by simp only [sd]; grind -abstractProof
  have := Int.mul_nonneg (show 0 ≤ p.1 - b.1 by trivial) (show 0 ≤ p.2 - a.2 by trivial)
  have := Int.mul_pos (show 0 < p.1 - a.1 by trivial) (show 0 < b.2 - p.2 by trivial)
  trivial
theorem right_of' (p q v : V) (h1 : p.2 < v.2) (h2 : v.2 ≤ q.2) (h3 : p.1 < v.1) (h4 : q.1 < v.1) : sd p q v < 0 := by
  have e : sd p q v = -((v.1 - q.1) * (v.2 - p.2) + (v.1 - p.1) * (q.2 - v.2)) := by simp only [sd]; grind -abstractProof
  have := Int.mul_nonneg (show 0 ≤ v.1 - p.1 by trivial) (show 0 ≤ q.2 - v.2 by trivial)
  have := Int.mul_pos (show 0 < v.1 - q.1 by trivial) (show 0 < v.2 - p.2 by trivial)
  trivial
theorem left_of' (p q v : V) (h1 : p.2 < v.2) (h2 : v.2 ≤ q.2) (h3 : v.1 < p.1) (h4 : v.1 < q.1) : 0 < sd p q v := by
  have e : sd p q v = ((q.1 - v.1) * (v.2 - p.2) + (p.1 - v.1) * (q.2 - v.2)) := by simp only [sd]; grind -abstractProof
  have := Int.mul_nonneg (show 0 ≤ p.1 - v.1 by trivial) (show 0 ≤ q.2 - v.2 by trivial)
  have := Int.mul_pos (show 0 < q.1 - v.1 by trivial) (show 0 < v.2 - p.2 by trivial)
  trivial
theorem edge_up (p q a b : V) (hpq : p.2 ≤ q.2) (hab : a.2 ≤ b.2) (h : ¬ lm p q a b) :
    sg a b p - sg a b q = G p q b - G p q a := by
  by_cases hx : min p.1 q.1 ≤ max a.1 b.1
  case neg =>
    apply edge_R p q a b False hpq hab
    · intro x y; have := left_of a b p x y (by trivial) (by trivial); simp; trivial
    · intro x y; have := left_of a b q x y (by trivial) (by trivial); simp; trivial
    · intro x y; have := left_of' p q b x y (by trivial) (by trivial); simp; trivial
    · intro x y; have := left_of' p q a x y (by trivial) (by trivial); simp; trivial
  by_cases hx' : min a.1 b.1 ≤ max p.1 q.1
  case neg =>
    apply edge_R p q a b True hpq hab
    · intro x y; have := right_of a b p x y (by trivial) (by trivial); simp; trivial
    · intro x y; have := right_of a b q x y (by trivial) (by trivial); simp; trivial
    · intro x y; have := right_of' p q b x y (by trivial) (by trivial); simp; trivial
    · intro x y; have := right_of' p q a x y (by trivial) (by trivial); simp; trivial
  by_cases hy : min p.2 q.2 ≤ max a.2 b.2 ∧ min a.2 b.2 ≤ max p.2 q.2
  case neg =>
    apply edge_R p q a b True hpq hab <;> (intro x y; exfalso; trivial)
  by_cases h3 : sd p q a * sd p q b ≤ 0
  case neg =>
    have h3' : 0 < sd p q a * sd p q b := by trivial
    rcases mul_pos_iff'.1 h3' with ⟨ha, hb⟩ | ⟨ha, hb⟩
    · apply edge_R p q a b False hpq hab
      · intro x y
        have i := I1 p q a b
        have := Int.mul_pos (show 0 < b.2 - p.2 by trivial) ha
        have := Int.mul_nonneg (show 0 ≤ p.2 - a.2 by trivial) (Int.le_of_lt hb)
        have := pos_of (A := - sd a b p) (show 0 ≤ q.2 - p.2 by trivial) (by trivial)
        simp; trivial
      · intro x y
        have i := I2 p q a b
        have := Int.mul_pos (show 0 < b.2 - q.2 by trivial) ha
        have := Int.mul_nonneg (show 0 ≤ q.2 - a.2 by trivial) (Int.le_of_lt hb)
        have := pos_of (A := - sd a b q) (show 0 ≤ q.2 - p.2 by trivial) (by trivial)
        simp; trivial
      · intro x y; simp; trivial
      · intro x y; simp; trivial
    · apply edge_R p q a b True hpq hab
      · intro x y
        have i := I1 p q a b
        have := Int.mul_pos (show 0 < b.2 - p.2 by trivial) (show 0 < - sd p q a by trivial)
        have := Int.mul_nonneg (show 0 ≤ p.2 - a.2 by trivial) (show 0 ≤ - sd p q b by trivial)
        simp only [Int.mul_neg] at *
        have := neg_of (A := - sd a b p) (show 0 ≤ q.2 - p.2 by trivial) (by rw [Int.mul_neg]; trivial)
        simp; trivial
      · intro x y
        have i := I2 p q a b
        have := Int.mul_pos (show 0 < b.2 - q.2 by trivial) (show 0 < - sd p q a by trivial)
        have := Int.mul_nonneg (show 0 ≤ q.2 - a.2 by trivial) (show 0 ≤ - sd p q b by trivial)
        simp only [Int.mul_neg] at *
        have := neg_of (A := - sd a b q) (show 0 ≤ q.2 - p.2 by trivial) (by rw [Int.mul_neg]; trivial)
        simp; trivial
      · intro x y; simp; trivial
      · intro x y; simp; trivial
  by_cases h4 : sd a b p * sd a b q ≤ 0
  · exact absurd ⟨⟨hx, hx'⟩, hy, h3, h4⟩ h
  · have h4' : 0 < sd a b p * sd a b q := by trivial
    rcases mul_pos_iff'.1 h4' with ⟨ha, hb⟩ | ⟨ha, hb⟩
    · apply edge_R p q a b True hpq hab
      · intro x y; simp; trivial
      · intro x y; simp; trivial
      · intro x y
        have i := I3 p q a b
        have := Int.mul_nonneg (show 0 ≤ q.2 - b.2 by trivial) (Int.le_of_lt ha)
        have := Int.mul_pos (show 0 < b.2 - p.2 by trivial) hb
        have := pos_of (A := - sd p q b) (show 0 ≤ b.2 - a.2 by trivial) (by trivial)
        simp; trivial
      · intro x y
        have i := I4 p q a b
        have := Int.mul_nonneg (show 0 ≤ q.2 - a.2 by trivial) (Int.le_of_lt ha)
        have := Int.mul_pos (show 0 < a.2 - p.2 by trivial) hb
        have := pos_of (A := - sd p q a) (show 0 ≤ b.2 - a.2 by trivial) (by trivial)
        simp; trivial
    · apply edge_R p q a b False hpq hab
      · intro x y; simp; trivial
      · intro x y; simp; trivial
      · intro x y
        have i := I3 p q a b
        have := Int.mul_nonneg (show 0 ≤ q.2 - b.2 by trivial) (show 0 ≤ - sd a b p by trivial)
        have := Int.mul_pos (show 0 < b.2 - p.2 by trivial) (show 0 < - sd a b q by trivial)
        simp only [Int.mul_neg] at *
        have := neg_of (A := - sd p q b) (show 0 ≤ b.2 - a.2 by trivial) (by rw [Int.mul_neg]; trivial)
        simp; trivial
      · intro x y
        have i := I4 p q a b
        have := Int.mul_nonneg (show 0 ≤ q.2 - a.2 by trivial) (show 0 ≤ - sd a b p by trivial)
        have := Int.mul_pos (show 0 < a.2 - p.2 by trivial) (show 0 < - sd a b q by trivial)
        simp only [Int.mul_neg] at *
        have := neg_of (A := - sd p q a) (show 0 ≤ b.2 - a.2 by trivial) (by rw [Int.mul_neg]; trivial)
        simp; trivial
theorem sd_swap (a b p : V) : sd b a p = - sd a b p := by simp only [sd]; grind -abstractProof
theorem lm_swap_l (a b c d : V) : lm b a c d ↔ lm a b c d := by
  unfold lm
  rw [sd_swap a b c, sd_swap a b d, Int.mul_comm (sd c d b), Int.neg_mul_neg]
  simp only [Int.min_comm b.1, Int.max_comm b.1, Int.min_comm b.2, Int.max_comm b.2]
theorem lm_comm (a b c d : V) : lm c d a b ↔ lm a b c d := by
  unfold lm
  constructor <;> (rintro ⟨⟨h1, h2⟩, ⟨h3, h4⟩, h5, h6⟩; exact ⟨⟨h2, h1⟩, ⟨h4, h3⟩, h6, h5⟩)
theorem lm_swap_r (a b c d : V) : lm a b d c ↔ lm a b c d := by
  rw [← lm_comm, lm_swap_l, lm_comm]
theorem edge (p q a b : V) (h : ¬ lm p q a b) : sg a b p - sg a b q = G p q b - G p q a := by
  rcases Int.le_total p.2 q.2 with hpq | hpq <;> rcases Int.le_total a.2 b.2 with hab | hab
  · exact edge_up p q a b hpq hab h
  · have := edge_up p q b a hpq hab (by rwa [lm_swap_r])
    rw [sg_swap a b p, sg_swap a b q] at this
    trivial
  · have := edge_up q p a b hpq hab (by rwa [lm_swap_l])
    rw [G_swap p q, G_swap p q] at this
    trivial
  · have := edge_up q p b a hpq hab (by rwa [lm_swap_l, lm_swap_r])
    rw [G_swap p q, G_swap p q, sg_swap a b p, sg_swap a b q] at this
    trivial
end Geo
end
section
local macro_rules | `(tactic| trivial) => `(tactic| first | lia -abstractProof | omega)
set_option linter.unusedVariables false
namespace Geo
theorem sd_cyc (a b c : V) : sd b c a = sd a b c := by simp only [sd]; grind -abstractProof
theorem sd_self_l (a b : V) : sd a b a = 0 := by simp only [sd]; grind -abstractProof
theorem sd_self_r (a b : V) : sd a b b = 0 := by simp only [sd]; grind -abstractProof
theorem sg_self_l (a b : V) : sg a b a = 0 := by unfold sg; rw [sd_self_l]; simp
theorem sg_self_r (a b : V) : sg a b b = 0 := by unfold sg; rw [sd_self_r]; simp
theorem sg_zero {a b p : V} (h : sd a b p = 0) : sg a b p = 0 := by unfold sg; rw [h]; simp
theorem G_zero {a b p : V} (h : sd a b p = 0) : G a b p = 0 := by
  unfold G g; rw [sd_swap a b p, h]; simp
def al (A v B : V) : Int := G v B A - sg A v B
def be (A v B : V) : Int := sg v B A - G A v B
set_option maxHeartbeats 2000000 in
theorem corner (A v B : V) (h : sd A v B ≠ 0) : al A v B + be A v B = hh v B - hh A v := by
  unfold al be G g sg hh
  have e1 : sd v B A = sd A v B := sd_cyc A v B
  have e2 : sd B v A = - sd A v B := by rw [sd_swap v B A, e1]
  have e3 : sd v A B = - sd A v B := sd_swap A v B
  rw [e1, e2, e3]
  have q1 : v.2 = B.2 → sd A v B = (B.1 - v.1) * (A.2 - v.2) := by
    intro e; rw [← e1]; simp only [sd]; rw [e]; grind -abstractProof
  have q2 : A.2 = v.2 → sd A v B = (v.1 - A.1) * (B.2 - A.2) := by
    intro e; simp only [sd]; rw [e]; grind -abstractProof
  generalize sd A v B = s at *
  have c1 : v.2 = B.2 → ((s < 0 ∧ ((v.1 < B.1 ∧ A.2 < v.2) ∨ (B.1 < v.1 ∧ v.2 < A.2))) ∨ (0 < s ∧ ((v.1 < B.1 ∧ v.2 < A.2) ∨ (B.1 < v.1 ∧ A.2 < v.2)))) := by
    intro e
    have q := q1 e
    rcases Int.lt_or_lt_of_ne h with hs | hs
    · left; refine ⟨hs, ?_⟩
      rw [q] at hs
      have := mul_neg_iff'.1 hs
      trivial
    · right; refine ⟨hs, ?_⟩
      rw [q] at hs
      have := mul_pos_iff'.1 hs
      trivial
  have c2 : A.2 = v.2 → ((s < 0 ∧ ((A.1 < v.1 ∧ B.2 < A.2) ∨ (v.1 < A.1 ∧ A.2 < B.2))) ∨ (0 < s ∧ ((A.1 < v.1 ∧ A.2 < B.2) ∨ (v.1 < A.1 ∧ B.2 < A.2)))) := by
    intro e
    have q := q2 e
    rcases Int.lt_or_lt_of_ne h with hs | hs
    · left; refine ⟨hs, ?_⟩
      rw [q] at hs
      have := mul_neg_iff'.1 hs
      trivial
    · right; refine ⟨hs, ?_⟩
      rw [q] at hs
      have := mul_pos_iff'.1 hs
      trivial
  clear q1 q2 e1 e2 e3
  obtain ⟨A1, A2⟩ := A
  obtain ⟨v1, v2⟩ := v
  obtain ⟨B1, B2⟩ := B
  simp only at *
  by_cases hvB : v2 = B2
  · have c := c1 hvB
    by_cases hAv : A2 = v2
    · exfalso
      clear c1 c2
      rcases c with ⟨_, (⟨_, k2⟩ | ⟨_, k2⟩)⟩ | ⟨_, (⟨_, k2⟩ | ⟨_, k2⟩)⟩ <;> trivial
    · clear c1 c2
      rcases c with ⟨hs, (⟨k1, k2⟩ | ⟨k1, k2⟩)⟩ | ⟨hs, (⟨k1, k2⟩ | ⟨k1, k2⟩)⟩ <;>
        (repeat' (split <;> try (exfalso; trivial))) <;> trivial
  · by_cases hAv : A2 = v2
    · have c := c2 hAv
      clear c1 c2
      rcases c with ⟨hs, (⟨k1, k2⟩ | ⟨k1, k2⟩)⟩ | ⟨hs, (⟨k1, k2⟩ | ⟨k1, k2⟩)⟩ <;>
        (repeat' (split <;> try (exfalso; trivial))) <;> trivial
    · clear c1 c2
      have hs : s < 0 ∨ 0 < s := by trivial
      rcases hs with hs | hs <;>
        rcases Int.lt_or_lt_of_ne hvB with k | k <;> rcases Int.lt_or_lt_of_ne hAv with l | l <;>
        rcases Int.lt_trichotomy A2 B2 with m | m | m <;>
        (repeat' (split <;> try (exfalso; trivial))) <;> trivial
end Geo
end
section
local macro_rules | `(tactic| trivial) => `(tactic| first | lia -abstractProof | omega)
set_option linter.unusedVariables false
namespace Geo
def sumN : Nat → (Nat → Int) → Int
  | 0, _ => 0
  | n + 1, f => sumN n f + f n
theorem sumN_congr {f g : Nat → Int} : ∀ (n : Nat), (∀ i, i < n → f i = g i) → sumN n f = sumN n g
  | 0, _ => rfl
  | n + 1, h => by simp only [sumN]; rw [sumN_congr n (fun i hi => h i (by trivial)), h n (by trivial)]
theorem sumN_sub (f g : Nat → Int) : ∀ n, sumN n (fun i => f i - g i) = sumN n f - sumN n g
  | 0 => rfl
  | n + 1 => by simp only [sumN]; rw [sumN_sub f g n]; trivial
theorem sumN_tele (f : Nat → Int) : ∀ n, sumN n (fun i => f (i + 1) - f i) = f n - f 0
  | 0 => by simp [sumN]
  | n + 1 => by simp only [sumN]; rw [sumN_tele f n]; trivial
theorem sumN_zero {f : Nat → Int} : ∀ (n : Nat), (∀ i, i < n → f i = 0) → sumN n f = 0
  | 0, _ => rfl
  | n + 1, h => by simp only [sumN]; rw [sumN_zero n (fun i hi => h i (by trivial)), h n (by trivial)]; rfl
theorem sumN_head (f : Nat → Int) : ∀ n, sumN (n + 1) f = f 0 + sumN n (fun i => f (i + 1))
  | 0 => by simp [sumN]
  | n + 1 => by
    have := sumN_head f n
    simp only [sumN] at *
    trivial
theorem sumN_shift (f : Nat → Int) (n : Nat) (hp : ∀ i, f (i + n) = f i) : ∀ i, sumN n (fun k => f (i + k)) = sumN n f
  | 0 => by simp
  | i + 1 => by
    rw [← sumN_shift f n hp i]
    have h1 : sumN (n + 1) (fun k => f (i + k)) = sumN n (fun k => f (i + k)) + f (i + n) := rfl
    have h2 := sumN_head (fun k => f (i + k)) n
    have h3 := hp i
    simp only [Nat.add_zero] at h2
    have h4 : sumN n (fun k => f (i + 1 + k)) = sumN n (fun k => f (i + (k + 1))) :=
      sumN_congr n (fun k _ => by rw [show i + 1 + k = i + (k + 1) by trivial])
    trivial
theorem sumN_one {f : Nat → Int} (j : Nat) : ∀ (n : Nat), j < n → (∀ i, i < n → i ≠ j → f i = 0) → sumN n f = f j
  | 0, h, _ => by trivial
  | n + 1, h, hz => by
    simp only [sumN]
    by_cases e : j = n
    · subst e
      rw [sumN_zero j (fun i hi => hz i (by trivial) (by trivial))]; trivial
    · rw [sumN_one j n (by trivial) (fun i hi he => hz i (by trivial) he), hz n (by trivial) (by trivial)]; trivial
structure Mid (A b m : V) (s t : Int) : Prop where
  s0 : 0 < s
  t0 : 0 < t
  e1 : (s + t) * m.1 = s * A.1 + t * b.1
  e2 : (s + t) * m.2 = s * A.2 + t * b.2
theorem mid_box {x A b s t : Int} (s0 : 0 < s) (t0 : 0 < t) (e : (s + t) * x = s * A + t * b) : min A b ≤ x ∧ x ≤ max A b := by
  constructor
  · rcases Int.lt_or_le x (min A b) with h | h
    · have h1 := Int.mul_pos s0 (show 0 < A - x by trivial)
      have h2 := Int.mul_pos t0 (show 0 < b - x by trivial)
      rw [Int.mul_sub] at h1 h2
      rw [Int.add_mul] at e
      trivial
    · exact h
  · rcases Int.lt_or_le (max A b) x with h | h
    · have h1 := Int.mul_pos s0 (show 0 < x - A by trivial)
      have h2 := Int.mul_pos t0 (show 0 < x - b by trivial)
      rw [Int.mul_sub] at h1 h2
      rw [Int.add_mul] at e
      trivial
    · exact h
theorem mid_sd {A b m c d : V} {s t : Int} (h : Mid A b m s t) : (s + t) * sd c d m = s * sd c d A + t * sd c d b := by
  have h1 := h.e1
  have h2 := h.e2
  simp only [sd]
  have : (s + t) * ((d.1 - c.1) * (m.2 - c.2) - (d.2 - c.2) * (m.1 - c.1)) = (d.1 - c.1) * ((s + t) * m.2 - (s + t) * c.2) - (d.2 - c.2) * ((s + t) * m.1 - (s + t) * c.1) := by grind -abstractProof
  rw [this, h1, h2]
  grind -abstractProof
theorem mid_sd' {A b m c : V} {s t : Int} (h : Mid A b m s t) : (s + t) * sd m b c = s * sd A b c := by
  have h1 := h.e1
  have h2 := h.e2
  simp only [sd]
  have : (s + t) * ((b.1 - m.1) * (c.2 - m.2) - (b.2 - m.2) * (c.1 - m.1)) = ((s + t) * b.1 - (s + t) * m.1) * (c.2 - b.2) - ((s + t) * b.2 - (s + t) * m.2) * (c.1 - b.1) := by grind -abstractProof
  rw [this, h1, h2]
  grind -abstractProof
theorem sign_same {k l X Y : Int} (hk : 0 < k) (hl : 0 < l) (e : k * X = l * Y) : (0 < X ↔ 0 < Y) ∧ (X < 0 ↔ Y < 0) := by
  refine ⟨⟨fun h => ?_, fun h => ?_⟩, ⟨fun h => ?_, fun h => ?_⟩⟩
  · have := Int.mul_pos hk h
    exact pos_of (Int.le_of_lt hl) (by trivial)
  · have := Int.mul_pos hl h
    exact pos_of (Int.le_of_lt hk) (by trivial)
  · have := mul_neg_iff'.2 (.inl ⟨hk, h⟩)
    exact neg_of (Int.le_of_lt hl) (by trivial)
  · have := mul_neg_iff'.2 (.inl ⟨hl, h⟩)
    exact neg_of (Int.le_of_lt hk) (by trivial)
theorem lm_sub {A b m c d : V} {s t : Int} (h : Mid A b m s t) (hl : lm m b c d) : lm A b c d := by
  obtain ⟨⟨a1, a2⟩, ⟨a3, a4⟩, a5, a6⟩ := hl
  have b1 := mid_box h.s0 h.t0 h.e1
  have b2 := mid_box h.s0 h.t0 h.e2
  refine ⟨⟨by trivial, by trivial⟩, ⟨by trivial, by trivial⟩, ?_, ?_⟩
  · have k1 := sign_same (by have := h.s0; have := h.t0; trivial) h.s0 (mid_sd' (c := c) h)
    have k2 := sign_same (by have := h.s0; have := h.t0; trivial) h.s0 (mid_sd' (c := d) h)
    rw [mul_nonpos_iff'] at a5 ⊢
    trivial
  · have k := mid_sd (c := c) (d := d) h
    have s0 := h.s0
    have t0 := h.t0
    apply Int.not_lt.1
    intro hp
    rcases mul_pos_iff'.1 hp with ⟨p1, p2⟩ | ⟨p1, p2⟩
    · have := Int.mul_pos s0 p1
      have := Int.mul_pos t0 p2
      have : 0 < sd c d m := pos_of (k := s + t) (by trivial) (by trivial)
      have := Int.mul_pos this p2
      trivial
    · have := mul_neg_iff'.2 (.inl ⟨s0, p1⟩)
      have := mul_neg_iff'.2 (.inl ⟨t0, p2⟩)
      have : sd c d m < 0 := neg_of (k := s + t) (by trivial) (by trivial)
      have := mul_pos_iff'.2 (.inr ⟨this, p2⟩)
      trivial
theorem mid_of_height {A b m : V} (hc : sd A b m = 0) (hh : (A.2 < m.2 ∧ m.2 < b.2) ∨ (b.2 < m.2 ∧ m.2 < A.2)) :
    ∃ s t, Mid A b m s t := by
  rcases hh with ⟨h1, h2⟩ | ⟨h1, h2⟩
  · refine ⟨b.2 - m.2, m.2 - A.2, by trivial, by trivial, ?_, ?_⟩
    · simp only [sd] at hc; grind -abstractProof
    · grind -abstractProof
  · refine ⟨m.2 - b.2, A.2 - m.2, by trivial, by trivial, ?_, ?_⟩
    · simp only [sd] at hc; grind -abstractProof
    · grind -abstractProof
end Geo
end
section
local macro_rules | `(tactic| trivial) => `(tactic| first | lia -abstractProof | omega)
set_option linter.unusedVariables false
namespace Geo
structure Poly (n : Nat) (v : Nat → V) : Prop where
  n3 : 3 ≤ n
  per : ∀ i, v (i + n) = v i
  cor : ∀ i, sd (v i) (v (i + 1)) (v (i + 2)) ≠ 0
  far : ∀ i k, 2 ≤ k → k + 2 ≤ n → ¬ lm (v i) (v (i + 1)) (v (i + k)) (v (i + k + 1))
def wn (n : Nat) (v : Nat → V) (p : V) : Int := sumN n (fun j => sg (v j) (v (j + 1)) p)
def dis (v : Nat → V) (p q : V) (j : Nat) : Int := sg (v j) (v (j + 1)) p - sg (v j) (v (j + 1)) q - (G p q (v (j + 1)) - G p q (v j))
theorem wn_dis {n : Nat} {v : Nat → V} (per : ∀ i, v (i + n) = v i) (p q : V) (i : Nat) :
    wn n v p - wn n v q = sumN n (fun k => dis v p q (i + k)) := by
  have h1 : ∀ j, dis v p q (j + n) = dis v p q j := by
    intro j
    unfold dis
    rw [per j, show j + n + 1 = (j + 1) + n by trivial, per (j + 1)]
  rw [sumN_shift (dis v p q) n h1 i]
  unfold dis wn
  rw [sumN_sub, sumN_sub, sumN_tele (fun i => G p q (v i)) n]
  have : v n = v 0 := by have := per 0; simpa using this
  rw [this]
  trivial
theorem dis_zero {v : Nat → V} {p q : V} {j : Nat} (h : ¬ lm p q (v j) (v (j + 1))) : dis v p q j = 0 := by
  unfold dis; rw [edge p q _ _ h]; trivial
theorem wn_free {n : Nat} {v : Nat → V} (per : ∀ i, v (i + n) = v i) {p q : V} (h : ∀ j, j < n → ¬ lm p q (v j) (v (j + 1))) :
    wn n v p = wn n v q := by
  have := wn_dis per p q 0
  rw [sumN_zero n (fun k hk => by rw [Nat.zero_add]; exact dis_zero (h k hk))] at this
  trivial
theorem wn_step {n : Nat} {v : Nat → V} (P : Poly n v) (i : Nat) :
    wn n v (v (i + 1)) - wn n v (v (i + 2)) = al (v i) (v (i + 1)) (v (i + 2)) + be (v (i + 1)) (v (i + 2)) (v (i + 3)) := by
  rw [wn_dis P.per _ _ i]
  obtain ⟨m, hm⟩ : ∃ m, n = m + 3 := ⟨n - 3, by have := P.n3; trivial⟩
  subst hm
  rw [sumN_head, sumN_head, sumN_head]
  rw [sumN_zero m (fun k hk => ?_)]
  · have d0 : dis v (v (i + 1)) (v (i + 2)) (i + 0) = al (v i) (v (i + 1)) (v (i + 2)) := by
      unfold dis al
      rw [Nat.add_zero, sg_self_r, G_zero (sd_self_l _ _)]; trivial
    have d1 : dis v (v (i + 1)) (v (i + 2)) (i + (0 + 1)) = 0 := by
      unfold dis
      rw [show i + (0 + 1) = i + 1 by trivial, show i + 1 + 1 = i + 2 by trivial, sg_self_r, sg_self_l, G_zero (sd_self_l _ _), G_zero (sd_self_r _ _)]; trivial
    have d2 : dis v (v (i + 1)) (v (i + 2)) (i + (0 + 1 + 1)) = be (v (i + 1)) (v (i + 2)) (v (i + 3)) := by
      unfold dis be
      rw [show i + (0 + 1 + 1) = i + 2 by trivial, show i + 2 + 1 = i + 3 by trivial, sg_self_l, G_zero (sd_self_r _ _)]; trivial
    rw [d0, d1, d2]; trivial
  · apply dis_zero
    have := P.far (i + 1) (k + 2) (by trivial) (by trivial)
    rw [show i + 1 + (k + 2) = i + (k + 1 + 1 + 1) by trivial, show i + 1 + 1 = i + 2 by trivial] at this
    exact this
def lefty (n : Nat) (v : Nat → V) (i : Nat) : Int := wn n v (v (i + 1)) + be (v i) (v (i + 1)) (v (i + 2)) + hh (v i) (v (i + 1))
theorem lefty_next {n : Nat} {v : Nat → V} (P : Poly n v) (i : Nat) : lefty n v (i + 1) = lefty n v i := by
  have h1 := wn_step P i
  have h2 := corner _ _ _ (P.cor i)
  unfold lefty
  rw [show i + 1 + 1 = i + 2 by trivial, show i + 1 + 2 = i + 3 by trivial]
  trivial
theorem lefty_all {n : Nat} {v : Nat → V} (P : Poly n v) : ∀ i, lefty n v i = lefty n v 0
  | 0 => rfl
  | i + 1 => by rw [lefty_next P, lefty_all P i]
theorem be_mid {A v B m : V} {s t : Int} (h : Mid A v m s t) (hs : sd A v B ≠ 0) (hne : (A.2 < m.2 ∧ m.2 < v.2) ∨ (v.2 < m.2 ∧ m.2 < A.2))
    (hc : sd A v m = 0) : be m v B = be A v B := by
  have s0 := h.s0
  have t0 := h.t0
  have c1 : sd v B A = sd A v B := sd_cyc A v B
  have c2 : sd v B m = sd m v B := sd_cyc m v B
  have k1 := sign_same (by trivial) s0 (mid_sd' (c := B) h)
  have far : ¬ lm A m v B := by
    rintro ⟨-, -, -, h4⟩
    rw [c1, c2] at h4
    rw [mul_nonpos_iff'] at h4
    trivial
  have e := edge A m v B far
  have z1 : sd A m v = 0 := by rw [← sd_cyc A m v, ← sd_cyc m v A, sd_swap, hc]; rfl
  rw [G_zero z1] at e
  have h1 : Mid v A m t s := ⟨t0, s0, by have := h.e1; grind -abstractProof, by have := h.e2; grind -abstractProof⟩
  have k2 := sign_same (by trivial) t0 (mid_sd' (c := B) h1)
  have n1 : sd m A B = - sd A m B := sd_swap _ _ _
  have n2 : sd v A B = - sd A v B := sd_swap _ _ _
  have n3 : sd v m B = - sd m v B := sd_swap _ _ _
  have : G A v B = G A m B + G m v B := by
    unfold G g
    rw [n1, n2, n3]
    rw [n1, n2] at k2
    rcases hne with ⟨x1, x2⟩ | ⟨x1, x2⟩ <;> rcases Int.lt_or_lt_of_ne hs with hs | hs <;> (repeat' (split <;> try (exfalso; trivial))) <;> trivial
  unfold be
  trivial
theorem wn_on {n : Nat} {v : Nat → V} (P : Poly n v) (i : Nat) (m : V) (hc : sd (v i) (v (i + 1)) m = 0)
    (hne : ((v i).2 < m.2 ∧ m.2 < (v (i + 1)).2) ∨ ((v (i + 1)).2 < m.2 ∧ m.2 < (v i).2)) :
    wn n v m = lefty n v 0 - hh (v i) (v (i + 1)) := by
  obtain ⟨s, t, hm⟩ := mid_of_height hc hne
  have s0 := hm.s0
  have t0 := hm.t0
  have hn3 := P.n3
  rw [← lefty_all P i]
  unfold lefty
  have hd := wn_dis P.per m (v (i + 1)) i
  obtain ⟨l, hl⟩ : ∃ m, n = m + 3 := ⟨n - 3, by trivial⟩
  have d0 : dis v m (v (i + 1)) (i + 0) = 0 := by
    unfold dis
    rw [Nat.add_zero, sg_self_r, sg_zero hc, G_zero (sd_self_r _ _), G_zero]; rfl
    rw [← sd_cyc m, sd_swap, ]
    have := sd_cyc (v i) (v (i + 1)) m
    have := sd_cyc (v (i + 1)) m (v i)
    rw [sd_swap] at *
    trivial
  have d1 : dis v m (v (i + 1)) (i + (0 + 1)) = be (v i) (v (i + 1)) (v (i + 2)) := by
    rw [← be_mid hm (P.cor i) hne hc]
    unfold dis be
    rw [show i + (0 + 1) = i + 1 by trivial, show i + 1 + 1 = i + 2 by trivial, sg_self_l, G_zero (sd_self_r _ _)]; trivial
  have dk : ∀ k, k < l → dis v m (v (i + 1)) (i + (k + 1 + 1)) = 0 := by
    intro k hk
    apply dis_zero
    intro hx
    have := P.far i (k + 2) (by trivial) (by trivial)
    exact this (lm_sub hm hx)
  have de : dis v m (v (i + 1)) (i + (l + 1 + 1)) = 0 := by
    apply dis_zero
    rintro ⟨-, -, -, h4⟩
    have hp : v (i + (l + 1 + 1) + 1) = v i := by
      rw [show i + (l + 1 + 1) + 1 = i + n by trivial, P.per]
    have hcor := P.cor (i + (l + 1 + 1))
    rw [hp, show i + (l + 1 + 1) + 2 = (i + 1) + n by trivial, P.per] at hcor
    rw [hp] at h4
    have key := mid_sd (c := v (i + (l + 1 + 1))) (d := v i) hm
    rw [sd_self_r] at key
    have kk := sign_same (k := s + t) (l := t) (X := sd (v (i + (l + 1 + 1))) (v i) m) (Y := sd (v (i + (l + 1 + 1))) (v i) (v (i + 1))) (by trivial) t0 (by trivial)
    rw [mul_nonpos_iff'] at h4
    trivial
  rw [hl, sumN_head, sumN_head] at hd
  rw [show (l + 1) = Nat.succ l from rfl] at hd
  simp only [sumN] at hd
  rw [sumN_zero l dk, d0, d1, de] at hd
  rw [hl]
  trivial
end Geo
end
section
local macro_rules | `(tactic| trivial) => `(tactic| first | lia -abstractProof | omega)
set_option linter.unusedVariables false
namespace Geo
def dbl (a : V) : V := (2 * a.1, 2 * a.2)
theorem sd_dbl (a b c : V) : sd (dbl a) (dbl b) (dbl c) = 4 * sd a b c := by simp only [sd, dbl]; grind -abstractProof
theorem mm2 (a b c d : Int) : min (2 * a) (2 * b) ≤ max (2 * c) (2 * d) ↔ min a b ≤ max c d := by
  have e1 : min (2 * a) (2 * b) = 2 * min a b := by trivial
  have e2 : max (2 * c) (2 * d) = 2 * max c d := by trivial
  rw [e1, e2]; trivial
theorem lm_dbl (a b c d : V) : lm (dbl a) (dbl b) (dbl c) (dbl d) ↔ lm a b c d := by
  unfold lm
  rw [sd_dbl, sd_dbl, sd_dbl, sd_dbl]
  have e : ∀ x y : Int, (4 * x * (4 * y) ≤ 0) ↔ x * y ≤ 0 := by
    intro x y
    have : 4 * x * (4 * y) = 16 * (x * y) := by grind -abstractProof
    rw [this]; trivial
  rw [e, e]
  simp only [dbl, mm2]
theorem Poly.dbl {n : Nat} {u : Nat → V} (P : Poly n u) : Poly n (fun i => dbl (u i)) :=
  ⟨P.n3, fun i => by simp only [P.per i], fun i => by
    have := P.cor i
    simp only [sd_dbl]; trivial, fun i k h1 h2 => by
    rw [lm_dbl]; exact P.far i k h1 h2⟩
def Oct (a b : V) : Prop := b.1 - a.1 = 0 ∨ b.2 - a.2 = 0 ∨ b.1 - a.1 = b.2 - a.2 ∨ b.1 - a.1 = -(b.2 - a.2)
theorem Oct.dbl {a b : V} (h : Oct a b) : Oct (dbl a) (dbl b) := by
  unfold Oct Geo.dbl at *
  simp only
  trivial
theorem oct_sd {a b : V} (h : Oct a b) (hne : a.2 ≠ b.2) : ∃ σ : Int, (σ = -1 ∨ σ = 0 ∨ σ = 1) ∧ ∀ p : V, sd a b p = (b.2 - a.2) * (a.1 + σ * (p.2 - a.2) - p.1) := by
  rcases h with h | h | h | h
  · exact ⟨0, by trivial, fun p => by simp only [sd]; rw [h]; grind -abstractProof⟩
  · trivial
  · exact ⟨1, by trivial, fun p => by simp only [sd]; rw [h]; grind -abstractProof⟩
  · exact ⟨-1, by trivial, fun p => by simp only [sd]; rw [h]; grind -abstractProof⟩
def hit (a b m : V) : Prop := sd a b m = 0 ∧ ((a.2 < m.2 ∧ m.2 < b.2) ∨ (b.2 < m.2 ∧ m.2 < a.2))
theorem sign_mul {H K : Int} (hH : 0 < H) : (0 < H * K ↔ 0 < K) ∧ (H * K < 0 ↔ K < 0) ∧ (H * K = 0 ↔ K = 0) := by
  refine ⟨⟨fun h => pos_of (by trivial) h, fun h => Int.mul_pos hH h⟩, ⟨fun h => neg_of (by trivial) h, fun h => mul_neg_iff'.2 (.inl ⟨hH, h⟩)⟩, ?_⟩
  constructor
  · intro h
    rcases Int.mul_eq_zero.1 h with h | h
    · trivial
    · exact h
  · rintro rfl; simp
theorem sg_up {a b : V} (p : V) (hl : a.2 < b.2) : sg a b p = if a.2 ≤ p.2 ∧ p.2 < b.2 ∧ 0 < sd a b p then 1 else 0 := by
  unfold sg
  rw [if_neg (c := b.2 ≤ p.2 ∧ p.2 < a.2 ∧ sd a b p < 0) (fun k => by have := k.1; have := k.2.1; omega)]
  exact Int.sub_zero _
theorem sg_dn {a b : V} (p : V) (hl : b.2 < a.2) : sg a b p = -(if b.2 ≤ p.2 ∧ p.2 < a.2 ∧ sd a b p < 0 then 1 else 0) := by
  unfold sg
  rw [if_neg (c := a.2 ≤ p.2 ∧ p.2 < b.2 ∧ 0 < sd a b p) (fun k => by have := k.1; have := k.2.1; omega)]
  exact Int.zero_sub _
theorem ite3 {P Q R : Prop} [Decidable P] [Decidable Q] [Decidable R] (hQ : Q → P) (hR : R ↔ P ∧ ¬ Q) :
    ((if P then 1 else 0 : Int) - (if Q then 1 else 0)) = if R then 1 else 0 := by
  by_cases hp : P <;> by_cases hq : Q
  · rw [if_pos hp, if_pos hq, if_neg (fun r => (hR.1 r).2 hq)]; rfl
  · rw [if_pos hp, if_neg hq, if_pos (hR.2 ⟨hp, hq⟩)]; rfl
  · exact absurd (hQ hq) hp
  · rw [if_neg hp, if_neg hq, if_neg (fun r => hp (hR.1 r).1)]; rfl
theorem left_up (A B y H X x : Int) (hH : 0 < H) (ha : A ≠ y) (hb : B ≠ y) :
    ((if A ≤ y ∧ y < B ∧ 0 < H * (X - x) then 1 else 0 : Int) - (if A ≤ y ∧ y < B ∧ 0 < H * (X - (x + 1)) then 1 else 0)) = if H * (X - (x + 1)) = 0 ∧ A < y ∧ y < B then 1 else 0 := by
  refine ite3 (fun k => ⟨k.1, k.2.1, (sign_mul hH).1.2 ?_⟩) ⟨fun k => ⟨⟨Int.le_of_lt k.2.1, k.2.2, (sign_mul hH).1.2 ?_⟩, fun z => ?_⟩, fun k => ⟨(sign_mul hH).2.2.2 ?_, ?_, k.1.2.1⟩⟩
  · have := (sign_mul hH).1.1 k.2.2; omega
  · have := (sign_mul hH).2.2.1 k.1; omega
  · have := (sign_mul hH).1.1 z.2.2; have := (sign_mul hH).2.2.1 k.1; omega
  · have k1 := (sign_mul hH).1.1 k.1.2.2
    have k2 : ¬ 0 < X - (x + 1) := fun z => k.2 ⟨k.1.1, k.1.2.1, (sign_mul hH).1.2 z⟩
    omega
  · have := k.1.1; omega
theorem sg_left {a b : V} (h : Oct a b) (x y : Int) (ha : a.2 ≠ y) (hb : b.2 ≠ y) :
    (hit a b (x + 1, y) → sg a b (x, y) - sg a b (x + 1, y) = 2 * hh a b - 1) ∧ (¬ hit a b (x + 1, y) → sg a b (x, y) - sg a b (x + 1, y) = 0) := by
  by_cases hne : a.2 = b.2
  · refine ⟨fun hx => ?_, fun _ => ?_⟩
    · unfold hit at hx; simp only at hx; omega
    · unfold sg; simp only; rw [hne]
      rw [if_neg (fun k => by have := k.1; have := k.2.1; omega), if_neg (fun k => by have := k.1; have := k.2.1; omega), if_neg (fun k => by have := k.1; have := k.2.1; omega), if_neg (fun k => by have := k.1; have := k.2.1; omega)]; rfl
  · obtain ⟨σ, hσ, hs⟩ := oct_sd h hne
    clear h hσ
    rcases Int.lt_or_lt_of_ne hne with hl | hl
    · rw [sg_up _ hl, sg_up _ hl, hs, hs]
      have e := left_up a.2 b.2 y (b.2 - a.2) (a.1 + σ * (y - a.2)) x (Int.sub_pos_of_lt hl) ha hb
      have hi : hit a b (x + 1, y) ↔ (b.2 - a.2) * (a.1 + σ * (y - a.2) - (x + 1)) = 0 ∧ a.2 < y ∧ y < b.2 := by
        unfold hit; rw [hs]
        exact ⟨fun k => ⟨k.1, k.2.resolve_right (fun z => by have := z.1; have := z.2; simp only at *; omega)⟩, fun k => ⟨k.1, Or.inl k.2⟩⟩
      have h1 : hh a b = 1 := if_pos (Or.inl hl)
      refine ⟨fun k => ?_, fun k => ?_⟩
      · rw [h1]; exact e.trans (if_pos (hi.1 k))
      · exact e.trans (if_neg (fun z => k (hi.2 z)))
    · have e0 : ∀ K : Int, (b.2 - a.2) * K < 0 ↔ 0 < (a.2 - b.2) * K := by
        intro K
        have : (b.2 - a.2) * K = -((a.2 - b.2) * K) := by rw [← Int.neg_mul, Int.neg_sub]
        rw [this]; omega
      have e1 : ∀ K : Int, (b.2 - a.2) * K = 0 ↔ (a.2 - b.2) * K = 0 := by
        intro K
        have : (b.2 - a.2) * K = -((a.2 - b.2) * K) := by rw [← Int.neg_mul, Int.neg_sub]
        rw [this]; omega
      rw [sg_dn _ hl, sg_dn _ hl, hs, hs]
      simp only [e0]
      have e := left_up b.2 a.2 y (a.2 - b.2) (a.1 + σ * (y - a.2)) x (Int.sub_pos_of_lt hl) hb ha
      have hi : hit a b (x + 1, y) ↔ (a.2 - b.2) * (a.1 + σ * (y - a.2) - (x + 1)) = 0 ∧ b.2 < y ∧ y < a.2 := by
        unfold hit; rw [hs, e1]
        exact ⟨fun k => ⟨k.1, k.2.resolve_left (fun z => by have := z.1; have := z.2; simp only at *; omega)⟩, fun k => ⟨k.1, Or.inr k.2⟩⟩
      have h1 : hh a b = 0 := if_neg (fun k => by rcases k with k | k <;> omega)
      refine ⟨fun k => ?_, fun k => ?_⟩
      · rw [h1]; refine (show ∀ u v : Int, -u - -v = -(u - v) by intro u v; omega) _ _ |>.trans ?_; exact congrArg Neg.neg (e.trans (if_pos (hi.1 k)))
      · refine (show ∀ u v : Int, -u - -v = -(u - v) by intro u v; omega) _ _ |>.trans ?_; exact congrArg Neg.neg (e.trans (if_neg (fun z => k (hi.2 z))))
theorem sg_far {a b p : V} (h1 : a.1 < p.1) (h2 : b.1 < p.1) : sg a b p = 0 := by
  unfold sg
  rw [if_neg, if_neg]; rfl
  · rintro ⟨x, y, z⟩
    have := left_of b a p x y h2 h1
    rw [sd_swap] at this
    trivial
  · rintro ⟨x, y, z⟩
    have := left_of a b p x y h1 h2
    trivial
theorem hit_near {a b p : V} (h : hit a b p) : ¬ (a.1 < p.1 ∧ b.1 < p.1) := by
  rintro ⟨h1, h2⟩
  rcases h with ⟨h0, h3 | h3⟩
  · have := left_of a b p (by trivial) (by trivial) h1 h2; trivial
  · have := left_of b a p (by trivial) (by trivial) h2 h1
    rw [sd_swap] at this; trivial
theorem hit_meet {a b c d m : V} (h1 : hit a b m) (h2 : hit c d m) : lm a b c d := by
  obtain ⟨s, t, k1⟩ := mid_of_height h1.1 h1.2
  obtain ⟨s', t', k2⟩ := mid_of_height h2.1 h2.2
  have a1 := mid_box k1.s0 k1.t0 k1.e1
  have a2 := mid_box k1.s0 k1.t0 k1.e2
  have b1 := mid_box k2.s0 k2.t0 k2.e1
  have b2 := mid_box k2.s0 k2.t0 k2.e2
  have s0 := k1.s0
  have t0 := k1.t0
  have s0' := k2.s0
  have t0' := k2.t0
  have m1 := mid_sd (c := a) (d := b) k2
  have m2 := mid_sd (c := c) (d := d) k1
  rw [h1.1] at m1
  rw [h2.1] at m2
  refine ⟨⟨by trivial, by trivial⟩, ⟨by trivial, by trivial⟩, ?_, ?_⟩
  · apply Int.not_lt.1
    intro hp
    rcases mul_pos_iff'.1 hp with ⟨p1, p2⟩ | ⟨p1, p2⟩
    · have := Int.mul_pos s0' p1
      have := Int.mul_pos t0' p2
      trivial
    · have := mul_neg_iff'.2 (.inl ⟨s0', p1⟩)
      have := mul_neg_iff'.2 (.inl ⟨t0', p2⟩)
      trivial
  · apply Int.not_lt.1
    intro hp
    rcases mul_pos_iff'.1 hp with ⟨p1, p2⟩ | ⟨p1, p2⟩
    · have := Int.mul_pos s0 p1
      have := Int.mul_pos t0 p2
      trivial
    · have := mul_neg_iff'.2 (.inl ⟨s0, p1⟩)
      have := mul_neg_iff'.2 (.inl ⟨t0, p2⟩)
      trivial
theorem hit_next {a b c m : V} (h1 : hit a b m) (h2 : hit b c m) : sd a b c = 0 := by
  obtain ⟨s', t', k2⟩ := mid_of_height h2.1 h2.2
  have m1 := mid_sd (c := a) (d := b) k2
  rw [h1.1, sd_self_r] at m1
  have := (sign_mul (K := sd a b c) k2.t0).2.2.1 (by trivial)
  exact this
theorem hit_one {n : Nat} {v : Nat → V} (P : Poly n v) {m : V} {i k : Nat} (hk : k < n) (h1 : hit (v i) (v (i + 1)) m)
    (h2 : hit (v (i + k)) (v (i + k + 1)) m) : k = 0 := by
  by_cases k0 : k = 0
  · exact k0
  exfalso
  by_cases k1 : k = 1
  · subst k1
    exact P.cor i (hit_next h1 h2)
  by_cases kn : k + 1 = n
  · have e : v (i + k + 1) = v i := by rw [show i + k + 1 = i + n by trivial, P.per]
    rw [e] at h2
    have := P.cor (i + k)
    rw [e, show i + k + 2 = (i + 1) + n by trivial, P.per] at this
    exact this (hit_next h2 h1)
  exact P.far i k (by trivial) (by trivial) (hit_meet h1 h2)
theorem hit_uniq {n : Nat} {v : Nat → V} (P : Poly n v) {m : V} {i j : Nat} (hi : i < n) (hj : j < n) (h1 : hit (v i) (v (i + 1)) m)
    (h2 : hit (v j) (v (j + 1)) m) : i = j := by
  rcases Nat.le_total i j with h | h
  · have := hit_one P (i := i) (k := j - i) (by trivial) h1 (by rw [show i + (j - i) = j by trivial]; exact h2)
    trivial
  · have := hit_one P (i := j) (k := i - j) (by trivial) h2 (by rw [show j + (i - j) = i by trivial]; exact h1)
    trivial
theorem ex_bound (v : Nat → V) : ∀ n, ∃ B : Int, ∀ j, j ≤ n → (v j).1 < B
  | 0 => ⟨(v 0).1 + 1, fun j hj => by rw [show j = 0 by trivial]; trivial⟩
  | n + 1 => by
    obtain ⟨B, hB⟩ := ex_bound v n
    refine ⟨max B ((v (n + 1)).1 + 1), fun j hj => ?_⟩
    by_cases e : j = n + 1
    · subst e; trivial
    · have := hB j (by trivial); trivial
def Along (n : Nat) (v : Nat → V) (y x : Int) : Prop :=
  (wn n v (x, y) = 0 ∧ ∀ x', x < x' → ∀ j, j < n → ¬ hit (v j) (v (j + 1)) (x', y)) ∨
  ((lefty n v 0 = 0 ∨ lefty n v 0 = 1) ∧ ((∀ j, j < n → ¬ hit (v j) (v (j + 1)) (x, y)) → wn n v (x, y) = lefty n v 0 ∨ wn n v (x, y) = lefty n v 0 - 1))
theorem along_far {n : Nat} {v : Nat → V} {y x : Int} (h : ∀ j, j ≤ n → (v j).1 < x) : Along n v y x := by
  left
  constructor
  · unfold wn
    exact sumN_zero n (fun j hj => sg_far (h j (by trivial)) (h (j + 1) (by trivial)))
  · intro x' hx j hj hh
    have h1 := h j (by trivial)
    have h2 := h (j + 1) (by trivial)
    exact hit_near hh ⟨by show _ < x'; trivial, by show _ < x'; trivial⟩
theorem along_step {n : Nat} {v : Nat → V} (P : Poly n v) (O : ∀ j, Oct (v j) (v (j + 1))) {y : Int} (hy : ∀ j, (v j).2 ≠ y) {x : Int}
    (h : Along n v y (x + 1)) : Along n v y x := by
  by_cases hz : ∃ j, j < n ∧ hit (v j) (v (j + 1)) (x + 1, y)
  · obtain ⟨j, hj, hhit⟩ := hz
    have hw : wn n v (x, y) - wn n v (x + 1, y) = 2 * hh (v j) (v (j + 1)) - 1 := by
      unfold wn
      rw [← sumN_sub]
      rw [sumN_one j n hj]
      · exact (sg_left (O j) x y (hy _) (hy _)).1 hhit
      · intro i hi hne
        refine (sg_left (O i) x y (hy _) (hy _)).2 (fun hh2 => hne ?_)
        exact hit_uniq P hi hj hh2 hhit
    have ho := wn_on P j (x + 1, y) hhit.1 hhit.2
    have hb : hh (v j) (v (j + 1)) = 0 ∨ hh (v j) (v (j + 1)) = 1 := by unfold hh; split <;> simp
    right
    refine ⟨?_, fun _ => ?_⟩
    · rcases h with h | h
      · have := h.1; trivial
      · exact h.1
    · trivial
  · have hz' : ∀ j, j < n → ¬ hit (v j) (v (j + 1)) (x + 1, y) := fun j hj hh => hz ⟨j, hj, hh⟩
    have hw : wn n v (x, y) = wn n v (x + 1, y) := by
      have : wn n v (x, y) - wn n v (x + 1, y) = 0 := by
        unfold wn
        rw [← sumN_sub]
        exact sumN_zero n (fun i hi => (sg_left (O i) x y (hy _) (hy _)).2 (hz' i hi))
      trivial
    rcases h with ⟨h1, h2⟩ | ⟨h1, h2⟩
    · left
      refine ⟨by trivial, fun x' hx' j hj => ?_⟩
      by_cases e : x' = x + 1
      · subst e; exact hz' j hj
      · exact h2 x' (by trivial) j hj
    · right
      refine ⟨h1, fun _ => ?_⟩
      rw [hw]; exact h2 hz'
theorem along_all {n : Nat} {v : Nat → V} (P : Poly n v) (O : ∀ j, Oct (v j) (v (j + 1))) {y : Int} (hy : ∀ j, (v j).2 ≠ y) (x : Int) : Along n v y x := by
  obtain ⟨B, hB⟩ := ex_bound v n
  have key : ∀ k : Nat, Along n v y (B - k) := by
    intro k
    induction k with
    | zero => exact along_far (fun j hj => by have := hB j hj; trivial)
    | succ k ih =>
      apply along_step P O hy
      rw [show B - ((k + 1 : Nat) : Int) + 1 = B - k by trivial]
      exact ih
  by_cases hx : B ≤ x
  · exact along_far (fun j hj => by have := hB j hj; trivial)
  · have := key (B - x).toNat
    rwa [show B - ((B - x).toNat : Int) = x by trivial] at this
theorem ifc {P Q : Prop} [Decidable P] [Decidable Q] (h : P ↔ Q) : (if P then 1 else 0 : Int) = if Q then 1 else 0 := by
  by_cases p : P
  · rw [if_pos p, if_pos (h.1 p)]
  · rw [if_neg p, if_neg (fun q => p (h.2 q))]
theorem half_c {K σ H A B y : Int} (hH : 0 < H) (hσ : σ = -1 ∨ σ = 0 ∨ σ = 1) (nz : A ≤ y ∧ y < B → K ≠ 0) :
    (2 * A ≤ 2 * y + 1 ∧ 2 * y + 1 < 2 * B ∧ 0 < H * (2 * (2 * K + σ))) ↔ (A ≤ y ∧ y < B ∧ 0 < H * K) := by
  constructor
  · rintro ⟨u, v, z⟩
    have u' : A ≤ y := by omega
    have v' : y < B := by omega
    have n0 := nz ⟨u', v'⟩
    have z' := (sign_mul hH).1.1 z
    exact ⟨u', v', (sign_mul hH).1.2 (by clear u v u' v' z nz; omega)⟩
  · rintro ⟨u, v, z⟩
    have z' := (sign_mul hH).1.1 z
    exact ⟨by omega, by omega, (sign_mul hH).1.2 (by clear u v z nz; omega)⟩
theorem half_up {a b p : V} (O : Oct a b) (h : ¬ lm p p a b) : sg (dbl a) (dbl b) (2 * p.1, 2 * p.2 + 1) = sg a b p ∧ ¬ hit (dbl a) (dbl b) (2 * p.1, 2 * p.2 + 1) := by
  by_cases hne : a.2 = b.2
  · constructor
    · unfold sg dbl; simp only
      rw [hne, if_neg (fun k => by have := k.1; have := k.2.1; omega), if_neg (fun k => by have := k.1; have := k.2.1; omega), if_neg (fun k => by have := k.1; have := k.2.1; omega), if_neg (fun k => by have := k.1; have := k.2.1; omega)]
    · unfold hit dbl; simp only; rintro ⟨_, k | k⟩ <;> omega
  · obtain ⟨σ, hσ, hs⟩ := oct_sd O hne
    have e1 := hs p
    have hb1 : b.1 = a.1 + σ * (b.2 - a.2) := by
      have := hs b
      rw [sd_self_r] at this
      rcases Int.mul_eq_zero.1 this.symm with h | h
      · omega
      · omega
    have e2 : sd (dbl a) (dbl b) (2 * p.1, 2 * p.2 + 1) = (b.2 - a.2) * (2 * (2 * (a.1 + σ * (p.2 - a.2) - p.1) + σ)) := by
      simp only [sd, dbl]
      rw [hb1]; grind -abstractProof
    have notz : min a.2 b.2 ≤ p.2 ∧ p.2 ≤ max a.2 b.2 → a.1 + σ * (p.2 - a.2) - p.1 ≠ 0 := by
      intro hh hz
      apply h
      have hz0 : sd a b p = 0 := by rw [e1, hz]; simp
      have hp1 : p.1 = a.1 + σ * (p.2 - a.2) := by omega
      have hbox : min a.1 b.1 ≤ p.1 ∧ p.1 ≤ max a.1 b.1 := by
        clear e1 e2 hs O h hz hz0 hne
        rcases hσ with rfl | rfl | rfl <;> omega
      refine ⟨⟨by omega, by omega⟩, ⟨by omega, by omega⟩, ?_, ?_⟩
      · simp [sd]
      · rw [hz0]; simp
    clear hb1 h O
    generalize a.1 + σ * (p.2 - a.2) - p.1 = K at e1 e2 notz
    rcases Int.lt_or_lt_of_ne hne with hl | hl
    · have hH := Int.sub_pos_of_lt hl
      constructor
      · rw [sg_up _ hl, sg_up _ (show (dbl a).2 < (dbl b).2 by simp only [dbl]; omega), e1, e2]
        exact ifc (half_c hH hσ (fun k => notz ⟨by omega, by omega⟩))
      · rintro ⟨h0, h1⟩
        rw [e2] at h0
        have h2 := (sign_mul hH).2.2.1 h0
        have hK : K = 0 := by clear notz h1; omega
        refine notz ?_ hK
        simp only [dbl] at h1
        rcases h1 with h1 | h1 <;> constructor <;> omega
    · have hH := Int.sub_pos_of_lt hl
      have en : ∀ K : Int, (b.2 - a.2) * K < 0 ↔ 0 < (a.2 - b.2) * K := by
        intro K
        have : (b.2 - a.2) * K = -((a.2 - b.2) * K) := by rw [← Int.neg_mul, Int.neg_sub]
        rw [this]; omega
      have ez : ∀ K : Int, (b.2 - a.2) * K = 0 ↔ (a.2 - b.2) * K = 0 := by
        intro K
        have : (b.2 - a.2) * K = -((a.2 - b.2) * K) := by rw [← Int.neg_mul, Int.neg_sub]
        rw [this]; omega
      constructor
      · rw [sg_dn _ hl, sg_dn _ (show (dbl b).2 < (dbl a).2 by simp only [dbl]; omega), e1, e2]
        simp only [en]
        exact congrArg Neg.neg (ifc (half_c hH hσ (fun k => notz ⟨by omega, by omega⟩)))
      · rintro ⟨h0, h1⟩
        rw [e2, ez] at h0
        have h2 := (sign_mul hH).2.2.1 h0
        have hK : K = 0 := by clear notz h1; omega
        refine notz ?_ hK
        simp only [dbl] at h1
        rcases h1 with h1 | h1 <;> constructor <;> omega
theorem wn_bound {n : Nat} {u : Nat → V} (P : Poly n u) (O : ∀ j, Oct (u j) (u (j + 1))) (p : V)
    (hoff : ∀ j, j < n → ¬ lm p p (u j) (u (j + 1))) : -1 ≤ wn n u p ∧ wn n u p ≤ 1 := by
  have key := along_all P.dbl (fun j => (O j).dbl) (y := 2 * p.2 + 1) (fun j => by simp only [dbl]; trivial) (2 * p.1)
  have hw : wn n (fun i => dbl (u i)) (2 * p.1, 2 * p.2 + 1) = wn n u p :=
    sumN_congr n (fun j hj => (half_up (O j) (hoff j hj)).1)
  have hn : ∀ j, j < n → ¬ hit (dbl (u j)) (dbl (u (j + 1))) (2 * p.1, 2 * p.2 + 1) := fun j hj => (half_up (O j) (hoff j hj)).2
  rw [← hw]
  rcases key with h | ⟨h1, h2⟩
  · have := h.1; trivial
  · have := h2 hn; trivial
end Geo
end
section
local macro_rules | `(tactic| trivial) => `(tactic| first | lia -abstractProof | omega)
set_option linter.unusedVariables false
namespace Geo
theorem lm_pt (p a b : V) : lm p p a b ↔ sd a b p = 0 ∧ (min a.1 b.1 ≤ p.1 ∧ p.1 ≤ max a.1 b.1) ∧ (min a.2 b.2 ≤ p.2 ∧ p.2 ≤ max a.2 b.2) := by
  unfold lm
  have e : sd a b p * sd a b p ≤ 0 ↔ sd a b p = 0 := by rw [mul_nonpos_iff']; trivial
  have z : ∀ c, sd p p c = 0 := by intro c; simp only [sd]; grind -abstractProof
  rw [e, z, z]
  constructor
  · rintro ⟨⟨h1, h2⟩, ⟨h3, h4⟩, -, h6⟩
    exact ⟨h6, by trivial, by trivial⟩
  · rintro ⟨h6, h1, h2⟩
    exact ⟨by trivial, by trivial, by simp, h6⟩
theorem I5 (p q a b : V) : (b.1 - p.1) * sd p q a + (p.1 - a.1) * sd p q b = (q.1 - p.1) * (- sd a b p) := by simp only [sd]; grind -abstractProof
theorem wsum {s t A B : Int} (hs : 0 ≤ s) (ht : 0 ≤ t) (hst : 0 < s + t) (e : s * A + t * B = 0) : A * B ≤ 0 := by
  apply Int.not_lt.1
  intro hp
  rcases mul_pos_iff'.1 hp with ⟨p1, p2⟩ | ⟨p1, p2⟩
  · by_cases h : s = 0
    · subst h
      have := Int.mul_pos (show 0 < t by trivial) p2
      trivial
    · have := Int.mul_pos (show 0 < s by trivial) p1
      have := Int.mul_nonneg ht (Int.le_of_lt p2)
      trivial
  · by_cases h : s = 0
    · subst h
      have := mul_neg_iff'.2 (.inl ⟨(show 0 < t by trivial), p2⟩)
      trivial
    · have := mul_neg_iff'.2 (.inl ⟨(show 0 < s by trivial), p1⟩)
      have := mul_nonpos_iff'.2 (.inl ⟨ht, Int.le_of_lt p2⟩)
      trivial
theorem pt_side {x a b : V} (h : lm x x a b) (y : V) : sd x y a * sd x y b ≤ 0 := by
  rw [lm_pt] at h
  obtain ⟨h0, h1, h2⟩ := h
  have i1 := I1 x y a b
  have i2 := I5 x y a b
  rw [h0] at i1 i2
  simp only [Int.neg_zero, Int.mul_zero] at i1 i2
  by_cases k2 : a.2 = b.2
  · by_cases k1 : a.1 = b.1
    · have : a = b := Prod.ext k1 k2
      subst this
      have : x = a := Prod.ext (by trivial) (by trivial)
      subst this
      rw [sd_self_l]; simp
    · rcases Int.lt_or_lt_of_ne k1 with k | k
      · exact wsum (s := b.1 - x.1) (t := x.1 - a.1) (by trivial) (by trivial) (by trivial) i2
      · refine wsum (s := x.1 - b.1) (t := a.1 - x.1) (by trivial) (by trivial) (by trivial) ?_
        have : (x.1 - b.1) * sd x y a + (a.1 - x.1) * sd x y b = - ((b.1 - x.1) * sd x y a + (x.1 - a.1) * sd x y b) := by grind -abstractProof
        trivial
  · rcases Int.lt_or_lt_of_ne k2 with k | k
    · exact wsum (s := b.2 - x.2) (t := x.2 - a.2) (by trivial) (by trivial) (by trivial) i1
    · refine wsum (s := x.2 - b.2) (t := a.2 - x.2) (by trivial) (by trivial) (by trivial) ?_
      have : (x.2 - b.2) * sd x y a + (a.2 - x.2) * sd x y b = - ((b.2 - x.2) * sd x y a + (x.2 - a.2) * sd x y b) := by grind -abstractProof
      trivial
theorem lm_of_end {a b c : V} (d : V) (h : lm c c a b) : lm a b c d := by
  have k := pt_side h d
  have h' := (lm_pt c a b).1 h
  obtain ⟨h0, h1, h2⟩ := h'
  refine ⟨by trivial, by trivial, ?_, k⟩
  rw [h0]; simp
theorem sd_four (a b c d : V) : sd a b d = sd a b c - (sd c d b - sd c d a) := by simp only [sd]; grind -abstractProof
theorem out {a b c d : V} (h0 : sd a b c = 0) (h1 : ¬ lm c c a b) (h2 : sd c d a * sd c d b ≤ 0) : sd a b d = 0 := by
  have key : ∀ k l : Int, (0 < k ∧ 0 < l ∨ k < 0 ∧ l < 0) → l * sd c d a = k * sd c d b → sd a b d = 0 := by
    intro k l hkl e
    have hz : sd c d a = 0 ∧ sd c d b = 0 := by
      rcases hkl with ⟨hk, hl⟩ | ⟨hk, hl⟩
      · have := sign_same hl hk e
        rw [mul_nonpos_iff'] at h2
        trivial
      · have := sign_same (k := -l) (l := -k) (X := sd c d a) (Y := sd c d b) (by trivial) (by trivial) (by rw [Int.neg_mul, Int.neg_mul, e])
        rw [mul_nonpos_iff'] at h2
        trivial
    rw [sd_four a b c d, h0, hz.1, hz.2]; rfl
  have hx : (b.1 - c.1) * sd c d a = (a.1 - c.1) * sd c d b := by
    have : (b.1 - c.1) * sd c d a - (a.1 - c.1) * sd c d b = (d.1 - c.1) * (- sd a b c) := by simp only [sd]; grind -abstractProof
    rw [h0] at this; simp at this; trivial
  have hy : (b.2 - c.2) * sd c d a = (a.2 - c.2) * sd c d b := by
    have : (b.2 - c.2) * sd c d a - (a.2 - c.2) * sd c d b = (d.2 - c.2) * (- sd a b c) := by simp only [sd]; grind -abstractProof
    rw [h0] at this; simp at this; trivial
  rw [lm_pt] at h1
  by_cases k1 : min a.1 b.1 ≤ c.1 ∧ c.1 ≤ max a.1 b.1
  · by_cases k2 : min a.2 b.2 ≤ c.2 ∧ c.2 ≤ max a.2 b.2
    · exact absurd ⟨h0, k1, k2⟩ h1
    · exact key _ _ (by trivial) hy
  · exact key _ _ (by trivial) hx
theorem col_box {a b p : V} (h : sd a b p = 0) (hne : a.1 ≠ b.1) (h1 : min a.1 b.1 ≤ p.1 ∧ p.1 ≤ max a.1 b.1) : lm p p a b := by
  rw [lm_pt]
  refine ⟨h, h1, ?_⟩
  simp only [sd] at h
  by_cases e1 : p.1 = a.1
  · have : (b.1 - a.1) * (p.2 - a.2) = 0 := by rw [e1] at h; grind -abstractProof
    rcases Int.mul_eq_zero.1 this with h | h <;> trivial
  by_cases e2 : p.1 = b.1
  · have : (b.1 - a.1) * (p.2 - b.2) = 0 := by rw [e2] at h; grind -abstractProof
    rcases Int.mul_eq_zero.1 this with h | h <;> trivial
  rcases Int.lt_or_lt_of_ne hne with k | k
  · exact mid_box (s := b.1 - p.1) (t := p.1 - a.1) (by trivial) (by trivial) (by grind -abstractProof)
  · exact mid_box (s := p.1 - b.1) (t := a.1 - p.1) (by trivial) (by trivial) (by grind -abstractProof)
def flip (a : V) : V := (a.2, a.1)
theorem sd_flip (a b p : V) : sd (flip a) (flip b) (flip p) = - sd a b p := by simp only [sd, flip]; grind -abstractProof
theorem lm_flip (a b c d : V) : lm (flip a) (flip b) (flip c) (flip d) ↔ lm a b c d := by
  unfold lm
  rw [sd_flip, sd_flip, sd_flip, sd_flip, Int.neg_mul_neg, Int.neg_mul_neg]
  simp only [flip]
  constructor <;> (rintro ⟨h1, h2, h3, h4⟩; exact ⟨h2, h1, h3, h4⟩)
theorem col_third {a b c d : V} (h1 : sd a b c = 0) (h2 : sd a b d = 0) (hne : a.1 ≠ b.1) : sd c d a = 0 := by
  have : (b.1 - a.1) * sd c d a = 0 := by
    have : (b.1 - a.1) * sd c d a = (c.1 - a.1) * sd a b d - (d.1 - a.1) * sd a b c := by simp only [sd]; grind -abstractProof
    rw [this, h1, h2]; simp
  rcases Int.mul_eq_zero.1 this with h | h <;> trivial
theorem col_over1 {a b c d : V} (h1 : sd a b c = 0) (h2 : sd a b d = 0) (hne : a.1 ≠ b.1)
    (hx : min a.1 b.1 ≤ max c.1 d.1 ∧ min c.1 d.1 ≤ max a.1 b.1) : lm c c a b ∨ lm d d a b ∨ lm a a c d ∨ lm b b c d := by
  by_cases k1 : min a.1 b.1 ≤ c.1 ∧ c.1 ≤ max a.1 b.1
  · exact .inl (col_box h1 hne k1)
  by_cases k2 : min a.1 b.1 ≤ d.1 ∧ d.1 ≤ max a.1 b.1
  · exact .inr (.inl (col_box h2 hne k2))
  · exact .inr (.inr (.inl (col_box (col_third h1 h2 hne) (by trivial) (by trivial))))
theorem col_over {a b c d : V} (h1 : sd a b c = 0) (h2 : sd a b d = 0) (hne : a ≠ b)
    (hx : min a.1 b.1 ≤ max c.1 d.1 ∧ min c.1 d.1 ≤ max a.1 b.1) (hy : min a.2 b.2 ≤ max c.2 d.2 ∧ min c.2 d.2 ≤ max a.2 b.2) :
    lm c c a b ∨ lm d d a b ∨ lm a a c d ∨ lm b b c d := by
  by_cases k : a.1 = b.1
  · have k2 : a.2 ≠ b.2 := fun e => hne (Prod.ext k e)
    have := col_over1 (a := flip a) (b := flip b) (c := flip c) (d := flip d) (by rw [sd_flip, h1]; rfl) (by rw [sd_flip, h2]; rfl) k2 hy
    simpa only [lm_flip] using this
  · exact col_over1 h1 h2 k hx
theorem lm_zero {a b c d : V} (h : lm a b c d) (hne : a ≠ b) (h0 : sd a b c = 0) : lm c c a b ∨ lm d d a b ∨ lm a a c d ∨ lm b b c d := by
  by_cases k : lm c c a b
  · exact .inl k
  · obtain ⟨hx, hy, h3, h4⟩ := h
    exact col_over h0 (out h0 k h4) hne hx hy
theorem wbox {α β γ δ p q a b : Int} (h1 : 0 ≤ α) (h2 : 0 ≤ β) (h3 : 0 ≤ γ) (h4 : 0 ≤ δ) (h5 : 0 < α + β) (e1 : α + β = γ + δ)
    (e2 : α * p + β * q = γ * a + δ * b) : min p q ≤ max a b ∧ min a b ≤ max p q := by
  have low : ∀ {α β p q m : Int}, 0 ≤ α → 0 ≤ β → m ≤ p → m ≤ q → (α + β) * m ≤ α * p + β * q := by
    intro α β p q m h1 h2 h3 h4
    have := Int.mul_le_mul_of_nonneg_left h3 h1
    have := Int.mul_le_mul_of_nonneg_left h4 h2
    rw [Int.add_mul]; trivial
  have upp : ∀ {α β p q m : Int}, 0 ≤ α → 0 ≤ β → p ≤ m → q ≤ m → α * p + β * q ≤ (α + β) * m := by
    intro α β p q m h1 h2 h3 h4
    have := Int.mul_le_mul_of_nonneg_left h3 h1
    have := Int.mul_le_mul_of_nonneg_left h4 h2
    rw [Int.add_mul]; trivial
  constructor
  · apply Int.not_lt.1
    intro h
    have a1 := low (m := max a b + 1) h1 h2 (show max a b + 1 ≤ p by trivial) (show max a b + 1 ≤ q by trivial)
    have a2 := upp (m := max a b) h3 h4 (show a ≤ max a b by trivial) (show b ≤ max a b by trivial)
    rw [← e1] at a2
    rw [Int.mul_add] at a1
    trivial
  · apply Int.not_lt.1
    intro h
    have a1 := low (m := max p q + 1) h3 h4 (show max p q + 1 ≤ a by trivial) (show max p q + 1 ≤ b by trivial)
    have a2 := upp (m := max p q) h1 h2 (show p ≤ max p q by trivial) (show q ≤ max p q by trivial)
    rw [← e1] at a1
    rw [Int.mul_add] at a1
    trivial
theorem lm_cross {p q a b : V} (h1 : sd a b p * sd a b q < 0) (h2 : sd p q a * sd p q b ≤ 0) : lm p q a b := by
  have e1 : sd a b p - sd a b q = sd p q b - sd p q a := by simp only [sd]; grind -abstractProof
  have x1 : (-sd a b q) * p.1 + (sd a b p) * q.1 = (sd p q b) * a.1 + (-sd p q a) * b.1 := by simp only [sd]; grind -abstractProof
  have y1 : (-sd a b q) * p.2 + (sd a b p) * q.2 = (sd p q b) * a.2 + (-sd p q a) * b.2 := by simp only [sd]; grind -abstractProof
  have x2 : (sd a b q) * p.1 + (-sd a b p) * q.1 = (-sd p q b) * a.1 + (sd p q a) * b.1 := by grind -abstractProof
  have y2 : (sd a b q) * p.2 + (-sd a b p) * q.2 = (-sd p q b) * a.2 + (sd p q a) * b.2 := by grind -abstractProof
  have k1 := mul_neg_iff'.1 h1
  have k2 := mul_nonpos_iff'.1 h2
  rcases k1 with ⟨c1, c2⟩ | ⟨c1, c2⟩
  · exact ⟨wbox (by trivial) (by trivial) (by trivial) (by trivial) (by trivial) (by trivial) x1, wbox (by trivial) (by trivial) (by trivial) (by trivial) (by trivial) (by trivial) y1, h2, by trivial⟩
  · exact ⟨wbox (by trivial) (by trivial) (by trivial) (by trivial) (by trivial) (by trivial) x2, wbox (by trivial) (by trivial) (by trivial) (by trivial) (by trivial) (by trivial) y2, h2, by trivial⟩
theorem meet_iff {a b c d : V} (h1 : a ≠ b) (h2 : c ≠ d) : lm a b c d ↔
    ((sd a b c * sd a b d < 0 ∧ sd c d a * sd c d b < 0) ∨ lm c c a b ∨ lm d d a b ∨ lm a a c d ∨ lm b b c d) := by
  constructor
  · intro h
    by_cases k1 : sd a b c = 0
    · exact .inr (lm_zero h h1 k1)
    by_cases k2 : sd a b d = 0
    · have := lm_zero ((lm_swap_r a b c d).2 h) h1 k2
      rw [lm_swap_r a a, lm_swap_r b b] at this
      right; rcases this with h | h | h | h
      · exact .inr (.inl h)
      · exact .inl h
      · exact .inr (.inr (.inl h))
      · exact .inr (.inr (.inr h))
    by_cases k3 : sd c d a = 0
    · have := lm_zero ((lm_comm a b c d).2 h) h2 k3
      right; rcases this with h | h | h | h
      · exact .inr (.inr (.inl h))
      · exact .inr (.inr (.inr h))
      · exact .inl h
      · exact .inr (.inl h)
    by_cases k4 : sd c d b = 0
    · have := lm_zero ((lm_swap_r c d a b).2 ((lm_comm a b c d).2 h)) h2 k4
      rw [lm_swap_r c c, lm_swap_r d d] at this
      right; rcases this with h | h | h | h
      · exact .inr (.inr (.inr h))
      · exact .inr (.inr (.inl h))
      · exact .inl h
      · exact .inr (.inl h)
    · obtain ⟨hx, hy, h3, h4⟩ := h
      left
      have z1 : sd a b c * sd a b d ≠ 0 := fun e => by rcases Int.mul_eq_zero.1 e with h | h <;> contradiction
      have z2 : sd c d a * sd c d b ≠ 0 := fun e => by rcases Int.mul_eq_zero.1 e with h | h <;> contradiction
      trivial
  · rintro (⟨k1, k2⟩ | k | k | k | k)
    · exact (lm_comm _ _ _ _).1 (lm_cross k1 (Int.le_of_lt k2))
    · exact lm_of_end d k
    · exact (lm_swap_r _ _ _ _).1 (lm_of_end c k)
    · exact (lm_comm _ _ _ _).1 (lm_of_end b k)
    · exact (lm_swap_l _ _ _ _).1 ((lm_comm _ _ _ _).1 (lm_of_end a k))
def dot (D a : V) : Int := a.1 * D.1 + a.2 * D.2
def vec (p q : V) : V := (q.1 - p.1, q.2 - p.2)
def touchI (p q a b : V) : Prop :=
  if sd a b p - sd a b q ≠ 0 then sd a b p * sd a b q < 0 ∧ sd p q a * sd p q b ≤ 0
  else if sd p q a ≠ 0 then False
  else if p = q then lm p p a b
  else min (dot (vec p q) (vec p a)) (dot (vec p q) (vec p b)) < dot (vec p q) (vec p q) ∧ 0 < max (dot (vec p q) (vec p a)) (dot (vec p q) (vec p b))
theorem one_d {S T T' x y δ : Int} (hS : 0 < S) (e1 : S * x = T * δ) (e2 : S * y = T' * δ) (h1 : min T T' < S) (h2 : 0 < max T T') :
    ¬ (max 0 δ < min x y) ∧ ¬ (max x y < min 0 δ) := by
  have pos : ∀ {x T δ : Int}, S * x = T * δ → 0 < x → (0 < T ∧ 0 < δ) ∨ (T < 0 ∧ δ < 0) := by
    intro x T δ e h
    have := Int.mul_pos hS h
    exact mul_pos_iff'.1 (by trivial)
  have neg : ∀ {x T δ : Int}, S * x = T * δ → x < 0 → (0 < T ∧ δ < 0) ∨ (T < 0 ∧ 0 < δ) := by
    intro x T δ e h
    have := mul_neg_iff'.2 (.inl ⟨hS, h⟩)
    exact mul_neg_iff'.1 (by trivial)
  have big : ∀ {x T : Int}, S * x = T * δ → 0 < δ → δ < x → S < T := by
    intro x T e h h'
    have k := Int.mul_pos hS (show 0 < x - δ by trivial)
    have : 0 < δ * (T - S) := by
      have : δ * (T - S) = S * (x - δ) := by grind -abstractProof
      trivial
    have := pos_of (Int.le_of_lt h) this
    trivial
  have big' : ∀ {x T : Int}, S * x = T * δ → δ < 0 → x < δ → S < T := by
    intro x T e h h'
    have k := Int.mul_pos hS (show 0 < δ - x by trivial)
    have : 0 < (-δ) * (T - S) := by
      have : (-δ) * (T - S) = S * (δ - x) := by grind -abstractProof
      trivial
    have := pos_of (by trivial) this
    trivial
  constructor
  · intro h
    have k1 := pos e1 (by trivial)
    have k2 := pos e2 (by trivial)
    by_cases hd : 0 < δ
    · have := big e1 hd (by trivial)
      have := big e2 hd (by trivial)
      trivial
    · trivial
  · intro h
    have k1 := neg e1 (by trivial)
    have k2 := neg e2 (by trivial)
    by_cases hd : δ < 0
    · have := big' e1 hd (by trivial)
      have := big' e2 hd (by trivial)
      trivial
    · trivial
theorem sq_pos {x : Int} (h : x ≠ 0) : 0 < x * x := by
  rcases Int.lt_or_lt_of_ne h with k | k
  · exact mul_pos_iff'.2 (.inr ⟨k, k⟩)
  · exact Int.mul_pos k k
theorem sq_nonneg (x : Int) : 0 ≤ x * x := by
  by_cases h : x = 0
  · subst h; simp
  · exact Int.le_of_lt (sq_pos h)
theorem sq2_pos {p q : V} (h : p ≠ q) : 0 < dot (vec p q) (vec p q) := by
  simp only [dot, vec]
  have n1 := sq_nonneg (q.1 - p.1)
  have n2 := sq_nonneg (q.2 - p.2)
  by_cases k : p.1 = q.1
  · have : q.2 - p.2 ≠ 0 := fun e => h (Prod.ext k (by trivial))
    have := sq_pos this
    trivial
  · have := sq_pos (show q.1 - p.1 ≠ 0 by trivial)
    trivial
theorem in_between1 {p q a : Int} (h : min p q ≤ a ∧ a ≤ max p q) : (a - p) * (a - p) ≤ (a - p) * (q - p) := by
  have : (a - p) * (q - p) = (a - p) * (a - p) + (a - p) * (q - a) := by grind -abstractProof
  have : 0 ≤ (a - p) * (q - a) := by
    rcases Int.le_total p q with k | k
    · exact Int.mul_nonneg (by trivial) (by trivial)
    · have := Int.mul_nonneg (show 0 ≤ p - a by trivial) (show 0 ≤ a - q by trivial)
      have e : (p - a) * (a - q) = (a - p) * (q - a) := by grind -abstractProof
      trivial
  trivial
theorem in_between {p q a : V} (h : lm a a p q) (hp : a ≠ p) : 0 < dot (vec p q) (vec p a) := by
  rw [lm_pt] at h
  have h1 := in_between1 h.2.1
  have h2 := in_between1 h.2.2
  have := sq2_pos (Ne.symm hp)
  simp only [dot, vec] at *
  trivial
theorem in_between' {p q a : V} (h : lm a a p q) (hq : a ≠ q) : dot (vec p q) (vec p a) < dot (vec p q) (vec p q) := by
  have := in_between ((lm_swap_r _ _ _ _).2 h) hq
  simp only [dot, vec] at *
  have e : (a.1 - q.1) * (p.1 - q.1) + (a.2 - q.2) * (p.2 - q.2) = (q.1 - p.1) * (q.1 - p.1) + (q.2 - p.2) * (q.2 - p.2) - ((a.1 - p.1) * (q.1 - p.1) + (a.2 - p.2) * (q.2 - p.2)) := by grind -abstractProof
  trivial
theorem lm_self_end (a b : V) : lm a a a b := by
  rw [lm_pt, sd_self_l]; exact ⟨rfl, by trivial, by trivial⟩
theorem touch_iff {p q a b : V} (hab : a ≠ b) (hp : ¬ lm p p a b) (hq : ¬ lm q q a b) : touchI p q a b ↔ lm p q a b := by
  unfold touchI
  split
  · rename_i hd
    constructor
    · rintro ⟨h1, h2⟩; exact lm_cross h1 h2
    · rintro ⟨hx, hy, h3, h4⟩
      refine ⟨?_, h3⟩
      by_cases k1 : sd a b p = 0
      · have := out k1 hp h3; trivial
      by_cases k2 : sd a b q = 0
      · have := out (d := p) k2 hq (by rw [sd_swap p q, sd_swap p q, Int.neg_mul_neg]; exact h3); trivial
      have z1 : sd a b p * sd a b q ≠ 0 := fun e => by rcases Int.mul_eq_zero.1 e with h | h <;> contradiction
      trivial
  · rename_i hd
    have hd' : sd a b p = sd a b q := by trivial
    have e1 : sd a b p - sd a b q = sd p q b - sd p q a := by simp only [sd]; grind -abstractProof
    have hd2 : sd p q b = sd p q a := by trivial
    split
    · rename_i hn
      constructor
      · exact False.elim
      · rintro ⟨-, -, h3, -⟩
        rw [hd2] at h3
        have := sq_pos hn
        trivial
    · rename_i hn
      have hn0 : sd p q a = 0 := by trivial
      have hn1 : sd p q b = 0 := by trivial
      split
      · rename_i e; subst e; rfl
      · rename_i hne
        have apne : a ≠ p := fun e => hp (by rw [← e]; exact lm_self_end a b)
        have bpne : b ≠ p := fun e => hp (by rw [← e]; exact (lm_swap_r _ _ _ _).1 (lm_self_end b a))
        have aqne : a ≠ q := fun e => hq (by rw [← e]; exact lm_self_end a b)
        have bqne : b ≠ q := fun e => hq (by rw [← e]; exact (lm_swap_r _ _ _ _).1 (lm_self_end b a))
        constructor
        · rintro ⟨h1, h2⟩
          have S0 := sq2_pos hne
          have ex : ∀ c : V, sd p q c = 0 → dot (vec p q) (vec p q) * (c.1 - p.1) = dot (vec p q) (vec p c) * (q.1 - p.1) := by
            intro c hc
            have : dot (vec p q) (vec p q) * (c.1 - p.1) - dot (vec p q) (vec p c) * (q.1 - p.1) = (q.2 - p.2) * (- sd p q c) := by simp only [dot, vec, sd]; grind -abstractProof
            rw [hc] at this; simp at this; trivial
          have ey : ∀ c : V, sd p q c = 0 → dot (vec p q) (vec p q) * (c.2 - p.2) = dot (vec p q) (vec p c) * (q.2 - p.2) := by
            intro c hc
            have : dot (vec p q) (vec p q) * (c.2 - p.2) - dot (vec p q) (vec p c) * (q.2 - p.2) = (q.1 - p.1) * (sd p q c) := by simp only [dot, vec, sd]; grind -abstractProof
            rw [hc] at this; simp at this; trivial
          have o1 := one_d S0 (ex a hn0) (ex b hn1) h1 h2
          have o2 := one_d S0 (ey a hn0) (ey b hn1) h1 h2
          refine ⟨by trivial, by trivial, by rw [hn0]; simp, ?_⟩
          have : sd a b p = 0 := by
            have k : dot (vec p q) (vec p q) * sd a b p = 0 := by
              have x1 := ex a hn0
              have x2 := ex b hn1
              have y1 := ey a hn0
              have y2 := ey b hn1
              have : dot (vec p q) (vec p q) * sd a b p = (dot (vec p q) (vec p q) * (b.1 - p.1)) * (p.2 - a.2) + (dot (vec p q) (vec p q) * (b.2 - p.2)) * (a.1 - p.1) := by simp only [sd]; grind -abstractProof
              rw [this, x2, y2]
              have : dot (vec p q) (vec p b) * (q.1 - p.1) * (p.2 - a.2) + dot (vec p q) (vec p b) * (q.2 - p.2) * (a.1 - p.1) = dot (vec p q) (vec p b) * (- sd p q a) := by simp only [sd]; grind -abstractProof
              rw [this, hn0]; simp
            rcases Int.mul_eq_zero.1 k with h | h
            · trivial
            · exact h
          rw [this]; simp
        · rintro ⟨hx, hy, h3, h4⟩
          rcases col_over hn0 hn1 hne hx hy with k | k | k | k
          · have := in_between k apne
            have := in_between' k aqne
            trivial
          · have := in_between k bpne
            have := in_between' k bqne
            trivial
          · exact absurd k hp
          · exact absurd k hq
end Geo
end
section
local macro_rules | `(tactic| trivial) => `(tactic| first | lia -abstractProof | omega)
set_option linter.unusedVariables false
namespace Geo
open Eh
def ptOf (a : V) : Pt := ⟨a.1, a.2, 0⟩
structure Half (p : Pt) (P : V) : Prop where
  x : 2 * p.x = P.1
  y : 2 * p.y = P.2
theorem half_le {x : Rat} {X : Int} (h : 2 * x = X) (a : Int) : ((a : Rat) ≤ x ↔ 2 * a ≤ X) ∧ (x ≤ (a : Rat) ↔ X ≤ 2 * a) ∧ (x < (a : Rat) ↔ X < 2 * a) ∧ ((a : Rat) < x ↔ 2 * a < X) := by
  have e1 : (a:Rat) ≤ x ↔ ((2 * a : Int) : Rat) ≤ (X : Rat) := by rw [← h]; push_cast; grind
  have e2 : x ≤ (a:Rat) ↔ (X : Rat) ≤ ((2 * a : Int) : Rat) := by rw [← h]; push_cast; grind
  have e3 : x < (a:Rat) ↔ (X : Rat) < ((2 * a : Int) : Rat) := by rw [← h]; push_cast; grind
  have e4 : (a:Rat) < x ↔ ((2 * a : Int) : Rat) < (X : Rat) := by rw [← h]; push_cast; grind
  rw [e1, e2, e3, e4]
  exact ⟨Rat.intCast_le_intCast, Rat.intCast_le_intCast, Rat.intCast_lt_intCast, Rat.intCast_lt_intCast⟩
theorem left_half {p : Pt} {P : V} (h : Half p P) (a b : V) : 4 * left (ptOf a) (ptOf b) p = ((sd (dbl a) (dbl b) P : Int) : Rat) := by
  have h1 := h.x
  have h2 := h.y
  simp only [left, ptOf, sd, dbl]
  push_cast
  rw [← h1, ← h2]
  grind
theorem left_sign {p : Pt} {P : V} (h : Half p P) (a b : V) :
    (0 < left (ptOf a) (ptOf b) p ↔ 0 < sd (dbl a) (dbl b) P) ∧ (left (ptOf a) (ptOf b) p < 0 ↔ sd (dbl a) (dbl b) P < 0) ∧ (left (ptOf a) (ptOf b) p = 0 ↔ sd (dbl a) (dbl b) P = 0) := by
  have e := left_half h a b
  generalize left (ptOf a) (ptOf b) p = L at e
  generalize sd (dbl a) (dbl b) P = S at e
  have e1 : 0 < L ↔ ((0 : Int) : Rat) < (S : Rat) := by rw [← e]; push_cast; grind
  have e2 : L < 0 ↔ (S : Rat) < ((0 : Int) : Rat) := by rw [← e]; push_cast; grind
  have e3 : L = 0 ↔ (S : Rat) = ((0 : Int) : Rat) := by rw [← e]; push_cast; grind
  rw [e1, e2, e3]
  exact ⟨Rat.intCast_lt_intCast, Rat.intCast_lt_intCast, Rat.intCast_inj⟩
theorem rle_max (x a b : Rat) : x ≤ max a b ↔ x ≤ a ∨ x ≤ b := by grind
theorem rlt_max (x a b : Rat) : x < max a b ↔ x < a ∨ x < b := by grind
theorem rmin_le (x a b : Rat) : min a b ≤ x ↔ a ≤ x ∨ b ≤ x := by grind
theorem rmin_lt (x a b : Rat) : min a b < x ↔ a < x ∨ b < x := by grind
theorem onLine_half {p : Pt} {P : V} (h : Half p P) (a b : V) : onLine (ptOf a, ptOf b) p = true ↔ lm P P (dbl a) (dbl b) := by
  rw [lm_pt]
  unfold onLine between
  have k := (left_sign h a b).2.2
  have x1 := half_le h.x a.1
  have x2 := half_le h.x b.1
  have y1 := half_le h.y a.2
  have y2 := half_le h.y b.2
  simp only [Bool.and_eq_true, beq_iff_eq, decide_eq_true_eq]
  rw [k]
  simp only [rmin_le, rle_max, ptOf]
  rw [x1.1, x2.1, y1.1, y2.1, x1.2.1, x2.2.1, y1.2.1, y2.2.1]
  simp only [dbl]
  omega
theorem crosses_half {p : Pt} {P : V} (h : Half p P) (a b : V) : crosses p (ptOf a, ptOf b) = true ↔ sg (dbl a) (dbl b) P ≠ 0 := by
  have k := left_sign h a b
  have y1 := half_le h.y a.2
  have y2 := half_le h.y b.2
  unfold crosses sg
  have c1 : ((ptOf a, ptOf b).1.y ≤ p.y ∧ p.y < (ptOf a, ptOf b).2.y) ↔ 2 * a.2 ≤ P.2 ∧ P.2 < 2 * b.2 := and_congr y1.1 y2.2.2.1
  have c2 : ((ptOf a, ptOf b).2.y ≤ p.y ∧ p.y < (ptOf a, ptOf b).1.y) ↔ 2 * b.2 ≤ P.2 ∧ P.2 < 2 * a.2 := and_congr y2.1 y1.2.2.1
  simp only [c1, c2]
  have d1 : (dbl a).2 = 2 * a.2 := rfl
  have d2 : (dbl b).2 = 2 * b.2 := rfl
  simp only [d1, d2]
  generalize sd (dbl a) (dbl b) P = S at *
  split
  · rw [decide_eq_true_eq, k.1]
    by_cases h1 : 0 < S
    · rw [if_pos (by omega), if_neg (by omega)]; simp [h1]
    · rw [if_neg (by omega), if_neg (by omega)]; simp [h1]
  · split
    · rw [decide_eq_true_eq, k.2.1]
      by_cases h1 : S < 0
      · rw [if_neg (by omega), if_pos (by omega)]; simp [h1]
      · rw [if_neg (by omega), if_neg (by omega)]; simp [h1]
    · rw [if_neg (by omega), if_neg (by omega)]; simp
def uc (r : Room) (i : Nat) : V := ((r.corner i).x, (r.corner i).y)
theorem line_uc (r : Room) (i : Nat) : r.line i = (ptOf (uc r i), ptOf (uc r (i + 1))) := rfl
theorem uc_per (r : Room) (i : Nat) : uc r (i + r.n) = uc r i := by
  unfold uc Room.corner
  rw [Nat.add_mod_right]
theorem sg_cases (a b p : V) : sg a b p = 0 ∨ sg a b p = 1 ∨ sg a b p = -1 := by
  unfold sg
  split <;> split <;> simp
theorem count_par (c : Nat → Bool) (f : Nat → Int) : ∀ n, (∀ i, i < n → (c i = true ↔ f i ≠ 0) ∧ (f i = 0 ∨ f i = 1 ∨ f i = -1)) →
    ((((List.range n).filter c).length : Nat) : Int) % 2 = sumN n f % 2
  | 0, _ => rfl
  | n + 1, h => by
    have ih := count_par c f n (fun i hi => h i (by omega))
    have := h n (by omega)
    rw [List.range_succ, List.filter_append, List.length_append]
    simp only [sumN]
    by_cases k : c n = true
    · rw [List.filter_cons_of_pos k]
      have : f n ≠ 0 := this.1.1 k
      simp only [List.filter_nil, List.length_cons, List.length_nil]
      omega
    · have e : f n = 0 := by
        rcases this.2 with e | e | e
        · exact e
        · exact absurd (this.1.2 (by omega)) k
        · exact absurd (this.1.2 (by omega)) k
      rw [List.filter_cons_of_neg k]
      simp only [List.filter_nil, List.length_nil]
      omega
theorem within_half (r : Room) {p : Pt} {P : V} (h : Half p P) :
    r.within p = true ↔ (∀ j, j < r.n → ¬ lm P P (dbl (uc r j)) (dbl (uc r (j + 1)))) ∧ wn r.n (fun i => dbl (uc r i)) P % 2 = 1 := by
  unfold Room.within Room.lines
  rw [Bool.and_eq_true]
  have e1 : (!((List.range r.n).map r.line).any fun l => onLine l p) = true ↔ (∀ j, j < r.n → ¬ lm P P (dbl (uc r j)) (dbl (uc r (j + 1)))) := by
    rw [Bool.not_eq_true', List.any_map, List.any_eq_false]
    constructor
    · intro hh j hj hl
      exact hh j (List.mem_range.2 hj) (by rw [Function.comp, line_uc, onLine_half h]; exact hl)
    · intro hh j hj hl
      rw [Function.comp, line_uc, onLine_half h] at hl
      exact hh j (List.mem_range.1 hj) hl
  have e2 : (((List.range r.n).map r.line).filter (crosses p)).length = ((List.range r.n).filter (fun i => crosses p (r.line i))).length := by
    rw [List.filter_map, List.length_map]; rfl
  have e3 := count_par (fun i => crosses p (r.line i)) (fun j => sg (dbl (uc r j)) (dbl (uc r (j + 1))) P) r.n
    (fun i hi => ⟨by simp only [line_uc]; exact crosses_half h _ _, sg_cases _ _ _⟩)
  rw [e1, e2]
  have e4 : (((List.range r.n).filter (fun i => crosses p (r.line i))).length % 2 == 1) = true ↔ wn r.n (fun i => dbl (uc r i)) P % 2 = 1 := by
    unfold wn
    rw [← e3, beq_iff_eq]
    omega
  rw [e4]
theorem sg_dbl (a b p : V) : sg (dbl a) (dbl b) (dbl p) = sg a b p := by
  unfold sg
  rw [sd_dbl]
  simp only [dbl]
  have e1 : (2 * a.2 ≤ 2 * p.2 ∧ 2 * p.2 < 2 * b.2 ∧ 0 < 4 * sd a b p) ↔ (a.2 ≤ p.2 ∧ p.2 < b.2 ∧ 0 < sd a b p) := by omega
  have e2 : (2 * b.2 ≤ 2 * p.2 ∧ 2 * p.2 < 2 * a.2 ∧ 4 * sd a b p < 0) ↔ (b.2 ≤ p.2 ∧ p.2 < a.2 ∧ sd a b p < 0) := by omega
  simp only [e1, e2]
theorem wn_dbl (n : Nat) (u : Nat → V) (p : V) : wn n (fun i => dbl (u i)) (dbl p) = wn n u p :=
  sumN_congr n (fun j _ => sg_dbl _ _ _)
def plan (w : Whole) : V := (w.x, w.y)
theorem half_whole (w : Whole) : Half w.pt (dbl (plan w)) := by
  constructor <;> simp only [Whole.pt, dbl, plan] <;> push_cast <;> rfl
theorem within_whole (r : Room) (w : Whole) :
    r.within w.pt = true ↔ (∀ j, j < r.n → ¬ lm (plan w) (plan w) (uc r j) (uc r (j + 1))) ∧ wn r.n (uc r) (plan w) % 2 = 1 := by
  rw [within_half r (half_whole w), wn_dbl]
  simp only [lm_dbl]
structure Good (r : Room) : Prop where
  poly : Poly r.n (uc r)
  oct : ∀ j, Oct (uc r j) (uc r (j + 1))
def insideI (r : Room) (w : Whole) : Prop := (0 < w.z ∧ w.z < r.h) ∧ (∀ j, j < r.n → ¬ lm (plan w) (plan w) (uc r j) (uc r (j + 1))) ∧ wn r.n (uc r) (plan w) ≠ 0
theorem inside_iff {r : Room} (g : Good r) (w : Whole) : r.inside w.pt = true ↔ insideI r w := by
  unfold Room.inside insideI
  rw [Bool.and_eq_true, Bool.and_eq_true, within_whole, decide_eq_true_eq, decide_eq_true_eq]
  have z1 : 0 < w.pt.z ↔ 0 < w.z := by
    show ((0 : Int) : Rat) < (w.z : Rat) ↔ _
    exact Rat.intCast_lt_intCast
  have z2 : w.pt.z < (r.h : Rat) ↔ w.z < r.h := Rat.intCast_lt_intCast
  rw [z1, z2]
  constructor
  · rintro ⟨⟨h1, h2⟩, h3⟩
    exact ⟨h3, h1, by omega⟩
  · rintro ⟨h3, h1, h2⟩
    have := wn_bound g.poly g.oct (plan w) h1
    exact ⟨⟨h1, by omega⟩, h3⟩
theorem rat_div {N d : Int} (hd : 0 < d) : (0 < (N : Rat) / d ↔ 0 < N) ∧ ((N : Rat) / d < 1 ↔ N < d) ∧ (0 ≤ (N : Rat) / d ↔ 0 ≤ N) ∧ ((N : Rat) / d ≤ 1 ↔ N ≤ d) := by
  have hd' : (0 : Rat) < (d : Rat) := by exact_mod_cast hd
  have a1 : ∀ M : Rat, (0 < M / d ↔ 0 < M) ∧ (M / d < 0 ↔ M < 0) ∧ (M / d < 1 ↔ M < d) ∧ (1 < M / d ↔ d < M) := by
    intro M
    rw [Rat.lt_div_iff hd', Rat.div_lt_iff hd', Rat.div_lt_iff hd', Rat.lt_div_iff hd']
    simp
  have b := a1 N
  have c1 : (0 : Rat) < (N : Rat) ↔ 0 < N := Rat.intCast_pos
  have c2 : (N : Rat) < 0 ↔ N < 0 := by
    show (N : Rat) < ((0 : Int) : Rat) ↔ _
    exact Rat.intCast_lt_intCast
  have c3 : (N : Rat) < (d : Rat) ↔ N < d := Rat.intCast_lt_intCast
  have c4 : (d : Rat) < (N : Rat) ↔ d < N := Rat.intCast_lt_intCast
  refine ⟨by rw [b.1, c1], by rw [b.2.2.1, c3], ?_, ?_⟩
  · rw [← Rat.not_lt, b.2.1, c2]; omega
  · rw [← Rat.not_lt, b.2.2.2, c4]; omega
theorem rat_div_neg {N d : Int} (hd : d < 0) : (N : Rat) / d = ((-N : Int) : Rat) / ((-d : Int) : Rat) := by
  have : (d : Rat) ≠ 0 := by
    intro e
    have : d = 0 := by exact_mod_cast e
    omega
  push_cast
  grind
theorem touches_iff (p q : Whole) (a b : V) : touches p.pt q.pt (ptOf a, ptOf b) = true ↔ touchI (plan p) (plan q) a b := by
  unfold touches
  simp only [ptOf, Whole.pt, turn]
  generalize hd : sd a b (plan p) - sd a b (plan q) = d
  have e0 : ((q.x : Rat) - p.x) * ((b.2 : Rat) - a.2) - ((q.y : Rat) - p.y) * ((b.1 : Rat) - a.1) = (d : Rat) := by
    rw [← hd]; simp only [sd, plan]; push_cast; grind
  have e1 : ((a.1 : Rat) - p.x) * ((b.2 : Rat) - a.2) - ((a.2 : Rat) - p.y) * ((b.1 : Rat) - a.1) = ((sd a b (plan p) : Int) : Rat) := by
    simp only [sd, plan]; push_cast; grind
  have e2 : ((a.1 : Rat) - p.x) * ((q.y : Rat) - p.y) - ((a.2 : Rat) - p.y) * ((q.x : Rat) - p.x) = ((- sd (plan p) (plan q) a : Int) : Rat) := by
    simp only [sd, plan]; push_cast; grind
  have e3 : ((q.x : Rat) - p.x) * ((q.x : Rat) - p.x) + ((q.y : Rat) - p.y) * ((q.y : Rat) - p.y) = ((dot (vec (plan p) (plan q)) (vec (plan p) (plan q)) : Int) : Rat) := by
    simp only [dot, vec, plan]; push_cast; grind
  have e4 : ∀ c : V, ((c.1 : Rat) - p.x) * ((q.x : Rat) - p.x) + ((c.2 : Rat) - p.y) * ((q.y : Rat) - p.y) = ((dot (vec (plan p) (plan q)) (vec (plan p) c) : Int) : Rat) := by
    intro c
    simp only [dot, vec, plan]; push_cast; grind
  simp only [e0, e1, e2, e3, e4 a, e4 b]
  unfold touchI
  rw [hd]
  have r1 : sd a b (plan p) - sd a b (plan q) = sd (plan p) (plan q) b - sd (plan p) (plan q) a := by simp only [sd]; grind
  have z0 : ((d : Rat) ≠ 0) ↔ d ≠ 0 := by
    rw [ne_eq, ne_eq, Rat.intCast_eq_zero_iff]
  by_cases hd0 : d ≠ 0
  · rw [if_pos (z0.2 hd0), if_pos hd0]
    simp only [Bool.and_eq_true, decide_eq_true_eq]
    rcases Int.lt_or_lt_of_ne hd0 with k | k
    · rw [rat_div_neg k, rat_div_neg k]
      have t := rat_div (N := - sd a b (plan p)) (d := -d) (by omega)
      have u := rat_div (N := - - sd (plan p) (plan q) a) (d := -d) (by omega)
      rw [t.1, t.2.1, u.2.2.1, u.2.2.2, mul_neg_iff', mul_nonpos_iff']
      omega
    · have t := rat_div (N := sd a b (plan p)) (d := d) (by omega)
      have u := rat_div (N := - sd (plan p) (plan q) a) (d := d) (by omega)
      rw [t.1, t.2.1, u.2.2.1, u.2.2.2, mul_neg_iff', mul_nonpos_iff']
      omega
  · rw [if_neg (fun h => hd0 (z0.1 h)), if_neg hd0]
    have z1 : (((- sd (plan p) (plan q) a : Int) : Rat) ≠ 0) ↔ sd (plan p) (plan q) a ≠ 0 := by
      rw [ne_eq, ne_eq, Rat.intCast_eq_zero_iff]; omega
    by_cases hn : sd (plan p) (plan q) a ≠ 0
    · rw [if_pos (z1.2 hn), if_pos hn]; simp
    · rw [if_neg (fun h => hn (z1.1 h)), if_neg hn]
      have z2 : ((q.x : Rat) - p.x = 0 ∧ (q.y : Rat) - p.y = 0) ↔ plan p = plan q := by
        have c1 : (q.x : Rat) - p.x = ((q.x - p.x : Int) : Rat) := by push_cast; rfl
        have c2 : (q.y : Rat) - p.y = ((q.y - p.y : Int) : Rat) := by push_cast; rfl
        rw [c1, c2, Rat.intCast_eq_zero_iff, Rat.intCast_eq_zero_iff]
        simp only [plan, Prod.mk.injEq]
        omega
      by_cases hp : plan p = plan q
      · rw [if_pos (z2.2 hp), if_pos hp]
        have := onLine_half (half_whole p) a b
        rw [lm_dbl] at this
        exact this
      · rw [if_neg (fun h => hp (z2.1 h)), if_neg hp]
        have S0 := sq2_pos hp
        generalize dot (vec (plan p) (plan q)) (vec (plan p) (plan q)) = S at *
        have t := rat_div (N := dot (vec (plan p) (plan q)) (vec (plan p) a)) S0
        have u := rat_div (N := dot (vec (plan p) (plan q)) (vec (plan p) b)) S0
        generalize dot (vec (plan p) (plan q)) (vec (plan p) a) = A at *
        generalize dot (vec (plan p) (plan q)) (vec (plan p) b) = B at *
        simp only [Bool.and_eq_true, decide_eq_true_eq, rmin_lt, rlt_max]
        rw [t.1, t.2.1, u.1, u.2.1]
        omega
end Geo
end
section
local macro_rules | `(tactic| trivial) => `(tactic| first | lia -abstractProof | omega)
set_option linter.unusedVariables false
namespace Geo
open Eh
def clearI (r : Room) (p q : Whole) : Prop := ∀ j, j < r.n → ¬ lm (plan p) (plan q) (uc r j) (uc r (j + 1))
theorem uc_ne {r : Room} (g : Good r) (j : Nat) : uc r j ≠ uc r (j + 1) := by
  intro e
  apply g.poly.cor j
  rw [← e]
  simp only [sd]; grind -abstractProof
theorem sees_iff {r : Room} (g : Good r) (p q : Whole) : r.sees p.pt q.pt = true ↔ insideI r p ∧ insideI r q ∧ clearI r p q := by
  unfold Room.sees
  rw [Bool.and_eq_true, Bool.and_eq_true, inside_iff g, inside_iff g]
  constructor
  · rintro ⟨hp, hq, hc⟩
    refine ⟨hp, hq, ?_⟩
    unfold Room.clear at hc
    rw [Bool.or_eq_true] at hc
    rcases hc with hc | hc
    · rw [beq_iff_eq] at hc
      have e : plan p = plan q := by
        have h1 : p.pt.x = q.pt.x := by rw [hc]
        have h2 : p.pt.y = q.pt.y := by rw [hc]
        exact Prod.ext (Rat.intCast_inj.1 h1) (Rat.intCast_inj.1 h2)
      intro j hj
      rw [← e]
      exact hp.2.1 j hj
    · rw [Bool.and_eq_true, Bool.not_eq_true'] at hc
      have h1 := hc.1
      unfold Room.lines at h1
      rw [List.any_map, List.any_eq_false] at h1
      intro j hj hl
      apply h1 j (List.mem_range.2 hj)
      rw [Function.comp, line_uc, touches_iff, touch_iff (uc_ne g j) (hp.2.1 j hj) (hq.2.1 j hj)]
      exact hl
  · rintro ⟨hp, hq, hc⟩
    refine ⟨hp, hq, ?_⟩
    unfold Room.clear
    rw [Bool.or_eq_true]
    right
    rw [Bool.and_eq_true, Bool.not_eq_true']
    constructor
    · unfold Room.lines
      rw [List.any_map, List.any_eq_false]
      intro j hj hl
      have hj := List.mem_range.1 hj
      rw [Function.comp, line_uc, touches_iff, touch_iff (uc_ne g j) (hp.2.1 j hj) (hq.2.1 j hj)] at hl
      exact hc j hj hl
    · have hh : Half (onWay p.pt q.pt (1 / 2)) (p.x + q.x, p.y + q.y) := by
        constructor <;> simp only [onWay, Whole.pt] <;> push_cast <;> grind -abstractProof
      have hm : Mid (dbl (plan p)) (dbl (plan q)) (p.x + q.x, p.y + q.y) 1 1 := by
        refine ⟨by trivial, by trivial, ?_, ?_⟩ <;> simp only [dbl, plan] <;> trivial
      have hfree : ∀ j, j < r.n → ¬ lm (p.x + q.x, p.y + q.y) (dbl (plan q)) (dbl (uc r j)) (dbl (uc r (j + 1))) := by
        intro j hj hl
        exact hc j hj ((lm_dbl _ _ _ _).1 (lm_sub hm hl))
      unfold Room.inside
      rw [Bool.and_eq_true, Bool.and_eq_true, within_half r hh, decide_eq_true_eq, decide_eq_true_eq]
      refine ⟨⟨?_, ?_⟩, ?_, ?_⟩
      · intro j hj hl
        exact hfree j hj ((lm_comm _ _ _ _).1 (lm_of_end _ hl))
      · rw [wn_free (v := fun i => dbl (uc r i)) (n := r.n) (q := dbl (plan q)) (fun i => by simp only [uc_per]) hfree, wn_dbl]
        have := (inside_iff g q).2 hq
        unfold Room.inside at this
        rw [Bool.and_eq_true, within_whole] at this
        exact this.1.2
      · have h1 : (0 : Rat) < (p.z : Rat) := Rat.intCast_pos.2 hp.1.1
        have h2 : (0 : Rat) < (q.z : Rat) := Rat.intCast_pos.2 hq.1.1
        simp only [onWay, Whole.pt]; grind -abstractProof
      · have h1 : (p.z : Rat) < (r.h : Rat) := Rat.intCast_lt_intCast.2 hp.1.2
        have h2 : (q.z : Rat) < (r.h : Rat) := Rat.intCast_lt_intCast.2 hq.1.2
        simp only [onWay, Whole.pt]; grind -abstractProof
theorem uc_mod (r : Room) (i : Nat) : uc r (i % r.n) = uc r i := by
  unfold uc Room.corner
  rw [Nat.mod_mod]
theorem uc_mod_add (r : Room) (i k : Nat) : uc r (i % r.n + k) = uc r (i + k) := by
  rw [← uc_mod, ← uc_mod r (i + k), Nat.mod_add_mod]
theorem left_int (a b p : V) : left (ptOf a) (ptOf b) (ptOf p) = ((sd a b p : Int) : Rat) := by
  simp only [left, ptOf, sd]; push_cast; rfl
theorem half_ptOf (p : V) : Half (ptOf p) (dbl p) := by
  constructor <;> simp only [ptOf, dbl] <;> push_cast <;> rfl
theorem onLine_int (a b p : V) : onLine (ptOf a, ptOf b) (ptOf p) = true ↔ lm p p a b := by
  rw [onLine_half (half_ptOf p), lm_dbl]
theorem meet_int {a b c d : V} (h1 : a ≠ b) (h2 : c ≠ d) : meet (ptOf a, ptOf b) (ptOf c, ptOf d) = true ↔ lm a b c d := by
  rw [meet_iff h1 h2]
  unfold meet
  simp only [Bool.or_eq_true, Bool.and_eq_true, decide_eq_true_eq, onLine_int, left_int]
  have c1 : ∀ x y : Int, ((x : Rat) * (y : Rat) < 0) ↔ x * y < 0 := by
    intro x y
    rw [← Rat.intCast_mul]
    show _ < ((0 : Int) : Rat) ↔ _
    exact Rat.intCast_lt_intCast
  rw [c1, c1]
theorem dirOk_int (a b : V) : dirOk (ptOf a, ptOf b) = true ↔ a ≠ b ∧ Oct a b := by
  unfold dirOk Oct
  simp only [ptOf]
  have c1 : (b.1 : Rat) - a.1 = ((b.1 - a.1 : Int) : Rat) := by push_cast; rfl
  have c2 : (b.2 : Rat) - a.2 = ((b.2 - a.2 : Int) : Rat) := by push_cast; rfl
  rw [c1, c2]
  simp only [Bool.and_eq_true, Bool.or_eq_true, beq_iff_eq, Bool.not_eq_true', Bool.and_eq_false_iff, beq_eq_false_iff_ne, ne_eq, Rat.intCast_eq_zero_iff, ← Rat.intCast_neg, Rat.intCast_inj]
  have : ¬ a = b ↔ (¬ (b.1 - a.1 = 0) ∨ ¬ (b.2 - a.2 = 0)) := by
    rw [Prod.ext_iff]; trivial
  rw [this]
theorem alongside_int (a b c : V) : alongside (ptOf a, ptOf b) (ptOf b, ptOf c) = true ↔ sd a b c = 0 := by
  unfold alongside
  simp only [ptOf]
  have : ((b.1 : Rat) - a.1) * ((c.2 : Rat) - b.2) - ((b.2 : Rat) - a.2) * ((c.1 : Rat) - b.1) = ((sd a b c : Int) : Rat) := by
    simp only [sd]; push_cast; grind -abstractProof
  rw [this, beq_iff_eq, Rat.intCast_eq_zero_iff]
end Geo
end
section
local macro_rules | `(tactic| trivial) => `(tactic| first | lia -abstractProof | omega)
set_option linter.unusedVariables false
namespace Geo
open Eh
def dirM (a b : V) : Bool := !(decide (b.1 - a.1 = 0) && decide (b.2 - a.2 = 0)) && (decide (b.1 - a.1 = 0) || (decide (b.2 - a.2 = 0) || decide ((b.1 - a.1).natAbs = (b.2 - a.2).natAbs)))
def fault4 (n : Nat) (u : Nat → V) : Option Nat := (List.range n).find? fun i => !dirM (u i) (u (i + 1))
def fault5 (n : Nat) (u : Nat → V) : Option Nat := (List.range n).find? fun i => decide (sd (u i) (u (i + 1)) (u (i + 2)) = 0)
def far6 (n : Nat) (u : Nat → V) (i : Nat) : Bool := (List.range (n - 3)).any fun k => decide (lm (u i) (u (i + 1)) (u (i + (k + 2))) (u (i + (k + 2) + 1)))
def fault6 (n : Nat) (u : Nat → V) : Option Nat := (List.range n).find? (far6 n u)
def areaM (n : Nat) (u : Nat → V) : Int := ((List.range n).map fun i => (u i).1 * (u (i + 1)).2 - (u (i + 1)).1 * (u i).2).sum
def linesFault (n : Nat) (u : Nat → V) : Option (Nat × Nat) := match fault4 n u with
  | some i => some (4, i)
  | none => match fault5 n u with
    | some i => some (5, i)
    | none => match fault6 n u with
      | some i => some (6, i)
      | none => if areaM n u ≤ 0 then some (7, 0) else none
def cn (room : List Int) : Nat := (room.length - 3) / 3
def cu (room : List Int) (i : Nat) : V := (room.getD (3 + 3 * (i % cn room)) 0, room.getD (3 + 3 * (i % cn room) + 1) 0)
def stuffM (z : Int) : Bool := decide (0 ≤ z) && decide (z ≤ 7)
def lenM (room : List Int) : Bool := decide (room.length % 3 = 0) && (decide (3 ≤ cn room) && decide (cn room ≤ 64))
def headM (room : List Int) : Bool := (decide (1 ≤ room.getD 0 0) && decide (room.getD 0 0 ≤ 4095)) && (stuffM (room.getD 1 0) && stuffM (room.getD 2 0))
def cornerM (room : List Int) (i : Nat) : Bool := (decide (0 ≤ room.getD (3 + 3 * i) 0) && decide (room.getD (3 + 3 * i) 0 ≤ 4095)) && ((decide (0 ≤ room.getD (3 + 3 * i + 1) 0) && decide (room.getD (3 + 3 * i + 1) 0 ≤ 4095)) && stuffM (room.getD (3 + 3 * i + 2) 0))
def roomFault (room : List Int) : Option (Nat × Nat) :=
  if lenM room = false then some (1, 0) else if headM room = false then some (2, 0) else match (List.range (cn room)).find? fun i => !cornerM room i with
  | some i => some (3, i)
  | none => linesFault (cn room) (cu room)
def withinM (n : Nat) (u : Nat → V) (p : V) : Bool := ((List.range n).all fun i => !decide (lm p p (u i) (u (i + 1)))) && decide (wn n u p ≠ 0)
def insideM (n : Nat) (u : Nat → V) (h : Int) (p : V) (z : Int) : Bool := (decide (0 < z) && decide (z < h)) && withinM n u p
def clearM (n : Nat) (u : Nat → V) (p q : V) : Bool := (List.range n).all fun i => !decide (lm p q (u i) (u (i + 1)))
theorem dirM_iff (a b : V) : dirM a b = true ↔ a ≠ b ∧ Oct a b := by
  unfold dirM Oct
  simp only [Bool.and_eq_true, Bool.or_eq_true, Bool.not_eq_true', Bool.and_eq_false_iff, decide_eq_true_eq, decide_eq_false_iff_not]
  have : a ≠ b ↔ (¬ (b.1 - a.1 = 0) ∨ ¬ (b.2 - a.2 = 0)) := by
    rw [Ne, Prod.ext_iff]; trivial
  rw [this]
  trivial
theorem bool_ext {a b : Bool} (h : a = true ↔ b = true) : a = b := by
  cases a <;> cases b <;> simp_all
theorem find_congr {p q : Nat → Bool} : ∀ (l : List Nat), (∀ i, i ∈ l → p i = q i) → l.find? p = l.find? q
  | [], _ => rfl
  | a :: l, h => by
    rw [List.find?_cons, List.find?_cons, h a (by simp), find_congr l (fun i hi => h i (by simp [hi]))]
theorem find_none {p : Nat → Bool} {n : Nat} (h : (List.range n).find? p = none) : ∀ i, i < n → p i = false := by
  intro i hi
  have := List.find?_eq_none.1 h i (List.mem_range.2 hi)
  simpa using this
theorem sum_foldr (l : List Int) : l.foldr (fun a b => a + b) 0 = l.sum := by
  induction l with
  | nil => rfl
  | cons a l ih => rw [List.foldr_cons, List.sum_cons, ih]
section
variable {r : Room} {n : Nat} {u : Nat → V}
theorem f4_eq (hn : r.n = n) (hu : uc r = u) : ((List.range r.n).find? fun i => !dirOk (r.line i)) = fault4 n u := by
  subst hn hu
  unfold fault4
  refine find_congr _ fun i _ => ?_
  congr 1
  apply bool_ext
  rw [line_uc, dirOk_int, dirM_iff]
theorem f5_eq (hn : r.n = n) (hu : uc r = u) : ((List.range r.n).find? fun i => alongside (r.line i) (r.line (i + 1))) = fault5 n u := by
  subst hn hu
  unfold fault5
  refine find_congr _ fun i _ => ?_
  apply bool_ext
  rw [line_uc, line_uc, alongside_int, decide_eq_true_eq]
theorem f6_eq (hn : r.n = n) (hu : uc r = u) (h3 : 3 ≤ n) (h4 : fault4 n u = none) :
    ((List.range r.n).find? fun i => (List.range r.n).any fun j => !neighbours r.n i j && meet (r.line i) (r.line j)) = fault6 n u := by
  subst hn hu
  have ne : ∀ i, i < r.n → uc r i ≠ uc r (i + 1) := fun i hi => by
    have := find_none h4 i hi
    simp only [Bool.not_eq_false'] at this
    exact ((dirM_iff _ _).1 this).1
  unfold fault6
  refine find_congr _ fun i hi => ?_
  have hi := List.mem_range.1 hi
  apply bool_ext
  unfold far6
  rw [List.any_eq_true, List.any_eq_true]
  constructor
  · rintro ⟨j, hj, h⟩
    have hj := List.mem_range.1 hj
    rw [Bool.and_eq_true, Bool.not_eq_true', line_uc, line_uc, meet_int (ne i hi) (ne j hj)] at h
    obtain ⟨hnb, hm⟩ := h
    unfold neighbours at hnb
    simp only [Bool.or_eq_false_iff, beq_eq_false_iff_ne, ne_eq] at hnb
    obtain ⟨n1, n2, n3⟩ := hnb
    have fix : ∀ t, t < r.n → 2 ≤ t → t + 2 ≤ r.n → (i + t) % r.n = j → ∃ x, x ∈ List.range (r.n - 3) ∧ decide (lm (uc r i) (uc r (i + 1)) (uc r (i + (x + 2))) (uc r (i + (x + 2) + 1))) = true := by
      intro t h1 h2 h3' h4'
      refine ⟨t - 2, List.mem_range.2 (by trivial), ?_⟩
      rw [decide_eq_true_eq, show t - 2 + 2 = t by trivial, ← uc_mod r (i + t), ← uc_mod_add r (i + t) 1, h4']
      exact hm
    by_cases hij : i < j
    · have e1 : i + 1 ≠ j := fun e => n2 (by rw [e, Nat.mod_eq_of_lt hj])
      have e2 : ¬ (i = 0 ∧ j + 1 = r.n) := fun ⟨a, b⟩ => n3 (by rw [b, Nat.mod_self, a])
      exact fix (j - i) (by trivial) (by trivial) (by trivial) (by rw [show i + (j - i) = j by trivial, Nat.mod_eq_of_lt hj])
    · have e1 : j + 1 ≠ i := fun e => n3 (by rw [e, Nat.mod_eq_of_lt hi])
      have e2 : ¬ (j = 0 ∧ i + 1 = r.n) := fun ⟨a, b⟩ => n2 (by rw [b, Nat.mod_self, a])
      exact fix (j + r.n - i) (by trivial) (by trivial) (by trivial) (by rw [show i + (j + r.n - i) = j + r.n by trivial, Nat.add_mod_right, Nat.mod_eq_of_lt hj])
  · rintro ⟨k, hk, h⟩
    have hk := List.mem_range.1 hk
    rw [decide_eq_true_eq] at h
    have hj : (i + (k + 2)) % r.n < r.n := Nat.mod_lt _ (by trivial)
    refine ⟨(i + (k + 2)) % r.n, List.mem_range.2 hj, ?_⟩
    rw [Bool.and_eq_true, Bool.not_eq_true', line_uc, line_uc, meet_int (ne i hi) (ne _ hj), uc_mod, uc_mod_add]
    refine ⟨?_, h⟩
    have cases : (i + (k + 2)) % r.n = i + (k + 2) ∧ i + (k + 2) < r.n ∨ (i + (k + 2)) % r.n = i + (k + 2) - r.n ∧ r.n ≤ i + (k + 2) := by
      by_cases c : i + (k + 2) < r.n
      · left; exact ⟨Nat.mod_eq_of_lt c, c⟩
      · right; refine ⟨?_, by trivial⟩
        rw [Nat.mod_eq_sub_mod (by trivial), Nat.mod_eq_of_lt (by trivial)]
    unfold neighbours
    simp only [Bool.or_eq_false_iff, beq_eq_false_iff_ne, ne_eq]
    generalize hJ : (i + (k + 2)) % r.n = J at *
    have m1 : (i + 1) % r.n = i + 1 ∧ i + 1 < r.n ∨ (i + 1) % r.n = 0 ∧ i + 1 = r.n := by
      by_cases c : i + 1 = r.n
      · right; rw [c, Nat.mod_self]; exact ⟨rfl, rfl⟩
      · left; exact ⟨Nat.mod_eq_of_lt (by trivial), by trivial⟩
    have m2 : (J + 1) % r.n = J + 1 ∧ J + 1 < r.n ∨ (J + 1) % r.n = 0 ∧ J + 1 = r.n := by
      by_cases c : J + 1 = r.n
      · right; rw [c, Nat.mod_self]; exact ⟨rfl, rfl⟩
      · left; exact ⟨Nat.mod_eq_of_lt (by trivial), by trivial⟩
    trivial
theorem area_eq (hn : r.n = n) (hu : uc r = u) : r.area2 = areaM n u := by
  subst hn hu
  unfold Room.area2 areaM
  rw [sum_foldr]
  rfl
def toFault (o : Option (Nat × Nat)) : Option Fault := o.map fun p => ⟨p.1, p.2⟩
theorem fault_eq (hn : r.n = n) (hu : uc r = u) (h1 : 3 ≤ n) (h2 : n ≤ 64) (h3 : ¬ (r.h < 1 ∨ WIDE < r.h ∨ STUFFS ≤ r.floor_ ∨ STUFFS ≤ r.ceiling))
    (h4 : ((List.range r.n).find? fun (i : Nat) => decide (WIDE < (r.corner i).x) || (decide (WIDE < (r.corner i).y) || (decide ((r.corner i).x < 0) || (decide ((r.corner i).y < 0) || decide (STUFFS ≤ (r.corner i).stuff))))) = none) :
    r.fault = toFault (linesFault n u) := by
  unfold Room.fault
  rw [if_neg (by unfold MOST; trivial), if_neg h3, h4]
  simp only
  unfold linesFault
  rw [f4_eq hn hu, f5_eq hn hu]
  cases e4 : fault4 n u with
  | some i => rfl
  | none =>
    simp only
    cases e5 : fault5 n u with
    | some i => rfl
    | none =>
      simp only
      rw [f6_eq hn hu h1 e4]
      cases e6 : fault6 n u with
      | some i => rfl
      | none =>
        simp only
        rw [area_eq hn hu]
        split <;> rfl
theorem good_of (hn : r.n = n) (hu : uc r = u) (h1 : 3 ≤ n) (h : linesFault n u = none) : Good r := by
  subst hn hu
  unfold linesFault at h
  cases e4 : fault4 r.n (uc r) with
  | some i => rw [e4] at h; cases h
  | none =>
    rw [e4] at h
    simp only at h
    cases e5 : fault5 r.n (uc r) with
    | some i => rw [e5] at h; cases h
    | none =>
      rw [e5] at h
      simp only at h
      cases e6 : fault6 r.n (uc r) with
      | some i => rw [e6] at h; cases h
      | none =>
        have lt : ∀ i, i % r.n < r.n := fun i => Nat.mod_lt _ (by trivial)
        refine ⟨⟨h1, uc_per r, fun i => ?_, fun i k hk1 hk2 => ?_⟩, fun j => ?_⟩
        · have := find_none e5 (i % r.n) (lt i)
          rw [decide_eq_false_iff_not, uc_mod, uc_mod_add, uc_mod_add] at this
          exact this
        · have := find_none e6 (i % r.n) (lt i)
          unfold far6 at this
          rw [List.any_eq_false] at this
          have := this (k - 2) (List.mem_range.2 (by trivial))
          rw [decide_eq_true_eq, show k - 2 + 2 = k by trivial, uc_mod, uc_mod_add, uc_mod_add, Nat.add_assoc, uc_mod_add] at this
          rw [Nat.add_assoc]
          exact this
        · have := find_none e4 (j % r.n) (lt j)
          simp only [Bool.not_eq_false', dirM_iff, uc_mod, uc_mod_add] at this
          exact this.2
end
theorem cornersOf_eq : ∀ (l : List Int), cornersOf l = if l.length % 3 = 0 then some ((List.range (l.length / 3)).map fun i => ⟨l.getD (3 * i) 0, l.getD (3 * i + 1) 0, stuffOf (l.getD (3 * i + 2) 0)⟩) else none
  | [] => by simp [cornersOf]
  | [a] => by simp [cornersOf]
  | [a, b] => by simp [cornersOf]
  | x :: y :: s :: l => by
    have ih := cornersOf_eq l
    rw [cornersOf, ih]
    have e1 : (x :: y :: s :: l).length % 3 = l.length % 3 := by simp only [List.length_cons]; trivial
    have e2 : (x :: y :: s :: l).length / 3 = l.length / 3 + 1 := by simp only [List.length_cons]; trivial
    rw [e1, e2]
    by_cases h : l.length % 3 = 0
    · rw [if_pos h, if_pos h, List.range_succ_eq_map, List.map_cons, List.map_map]
      simp only [Option.map_some]
      congr 2
    · rw [if_neg h, if_neg h]; rfl
theorem stuffM_iff (z : Int) : stuffM z = true ↔ stuffOf z < STUFFS := by
  unfold stuffM stuffOf STUFFS
  rw [Bool.and_eq_true, decide_eq_true_eq, decide_eq_true_eq]
  split <;> trivial
def roomL (room : List Int) : Room := ⟨room.getD 0 0, stuffOf (room.getD 1 0), stuffOf (room.getD 2 0), (List.range (cn room)).map fun i => ⟨room.getD (3 + 3 * i) 0, room.getD (3 + 3 * i + 1) 0, stuffOf (room.getD (3 + 3 * i + 2) 0)⟩⟩
theorem roomL_n (room : List Int) : (roomL room).n = cn room := by simp [roomL, Room.n]
theorem roomL_corner (room : List Int) (h : 0 < cn room) (i : Nat) : (roomL room).corner i = ⟨room.getD (3 + 3 * (i % cn room)) 0, room.getD (3 + 3 * (i % cn room) + 1) 0, stuffOf (room.getD (3 + 3 * (i % cn room) + 2) 0)⟩ := by
  have hl : i % cn room < cn room := Nat.mod_lt _ h
  unfold Room.corner
  rw [roomL_n]
  simp only [roomL]
  rw [List.getD_eq_getElem?_getD, List.getElem?_map, List.getElem?_range hl]
  rfl
theorem roomL_uc (room : List Int) (h : 0 < cn room) : uc (roomL room) = cu room := by
  funext i
  unfold uc cu
  rw [roomL_corner room h]
theorem roomOf_eq (room : List Int) : roomOf room = match roomFault room with
    | some f => .error ⟨f.1, f.2⟩
    | none => .ok (roomL room) := by
  have bad : lenM room = false → roomOf room = .error ⟨1, 0⟩ := by
    intro hl
    match room, hl with
    | [], _ => rfl
    | [_], _ => rfl
    | [_, _], _ => rfl
    | h :: f :: c :: l, hl =>
      unfold roomOf
      simp only [cornersOf_eq]
      by_cases hm : l.length % 3 = 0
      · rw [if_pos hm]
        simp only
        unfold lenM cn at hl
        simp only [List.length_cons, Bool.and_eq_false_iff, decide_eq_false_iff_not] at hl
        have : Room.fault ⟨h, stuffOf f, stuffOf c, (List.range (l.length / 3)).map fun i => ⟨l.getD (3 * i) 0, l.getD (3 * i + 1) 0, stuffOf (l.getD (3 * i + 2) 0)⟩⟩ = some ⟨1, 0⟩ := by
          unfold Room.fault
          rw [if_pos]
          simp only [Room.n, List.length_map, List.length_range, MOST]
          trivial
        rw [this]
      · rw [if_neg hm]
  unfold roomFault
  by_cases hl : lenM room = false
  · rw [if_pos hl, bad hl]
  · rw [if_neg hl]
    have hl' : lenM room = true := by simpa using hl
    have hl2 := hl'
    unfold lenM at hl2
    simp only [Bool.and_eq_true, decide_eq_true_eq] at hl2
    obtain ⟨m3, c3, c64⟩ := hl2
    have hr : roomOf room = match (roomL room).fault with
      | some e => .error e
      | none => .ok (roomL room) := by
      match room, m3, c3 with
      | [], _, c3 => simp [cn] at c3
      | [_], m3, _ => simp at m3
      | [_, _], m3, _ => simp at m3
      | h :: f :: c :: l, m3, c3 =>
        unfold roomOf
        simp only [cornersOf_eq]
        rw [if_pos (by simp only [List.length_cons] at m3; trivial)]
        have e : roomL (h :: f :: c :: l) = ⟨h, stuffOf f, stuffOf c, (List.range (l.length / 3)).map fun i => ⟨l.getD (3 * i) 0, l.getD (3 * i + 1) 0, stuffOf (l.getD (3 * i + 2) 0)⟩⟩ := by
          unfold roomL cn
          simp only [List.length_cons, Nat.add_sub_cancel]
          congr 1
          refine List.map_congr_left fun i _ => ?_
          have g : ∀ k, (h :: f :: c :: l).getD (3 + k) 0 = l.getD k 0 := by
            intro k; rw [Nat.add_comm 3 k]; rfl
          rw [g, Nat.add_assoc, g, Nat.add_assoc, g]
        rw [e]
        rfl
    rw [hr]
    have hn := roomL_n room
    have hu := roomL_uc room (by trivial)
    have head_iff : headM room = true ↔ ¬ ((roomL room).h < 1 ∨ WIDE < (roomL room).h ∨ STUFFS ≤ (roomL room).floor_ ∨ STUFFS ≤ (roomL room).ceiling) := by
      unfold headM
      rw [Bool.and_eq_true, Bool.and_eq_true, Bool.and_eq_true, stuffM_iff, stuffM_iff, decide_eq_true_eq, decide_eq_true_eq]
      simp only [roomL, WIDE]
      trivial
    have corner_eq : ((List.range (roomL room).n).find? fun (i : Nat) => decide (WIDE < ((roomL room).corner i).x) || (decide (WIDE < ((roomL room).corner i).y) || (decide (((roomL room).corner i).x < 0) || (decide (((roomL room).corner i).y < 0) || decide (STUFFS ≤ ((roomL room).corner i).stuff))))) = (List.range (cn room)).find? fun i => !cornerM room i := by
      rw [hn]
      refine find_congr _ fun i hi => ?_
      have hi := List.mem_range.1 hi
      apply bool_ext
      rw [roomL_corner room (by trivial), Nat.mod_eq_of_lt hi]
      unfold cornerM
      have := stuffM_iff (room.getD (3 + 3 * i + 2) 0)
      simp only [Bool.or_eq_true, decide_eq_true_eq, Bool.not_eq_true', Bool.and_eq_false_iff, decide_eq_false_iff_not]
      have s2 : stuffM (room.getD (3 + 3 * i + 2) 0) = false ↔ STUFFS ≤ stuffOf (room.getD (3 + 3 * i + 2) 0) := by
        rw [← Bool.not_eq_true, this]; trivial
      rw [s2]
      unfold WIDE
      trivial
    by_cases hh : headM room = false
    · rw [if_pos hh]
      have : (roomL room).fault = some ⟨2, 0⟩ := by
        unfold Room.fault
        rw [if_neg (by rw [hn]; unfold MOST; trivial), if_pos]
        have : ¬ headM room = true := by rw [hh]; simp
        rw [head_iff] at this
        exact Decidable.not_not.1 this
      rw [this]
    · rw [if_neg hh]
      have hh' : headM room = true := by simpa using hh
      cases ec : (List.range (cn room)).find? fun i => !cornerM room i with
      | some i =>
        have : (roomL room).fault = some ⟨3, i⟩ := by
          unfold Room.fault
          rw [if_neg (by rw [hn]; unfold MOST; trivial), if_neg (head_iff.1 hh'), corner_eq, ec]
        rw [this]
      | none =>
        rw [fault_eq hn hu c3 c64 (head_iff.1 hh') (by rw [corner_eq, ec])]
        simp only
        cases linesFault (cn room) (cu room) <;> rfl
theorem withinM_iff {r : Room} (g : Good r) (w : Whole) : insideM r.n (uc r) r.h (plan w) w.z = true ↔ insideI r w := by
  unfold insideM withinM insideI
  simp only [Bool.and_eq_true, decide_eq_true_eq, List.all_eq_true, Bool.not_eq_true', decide_eq_false_iff_not, List.mem_range, ne_eq]
theorem clearM_iff (r : Room) (p q : Whole) : clearM r.n (uc r) (plan p) (plan q) = true ↔ clearI r p q := by
  unfold clearM clearI
  simp only [decide_eq_true_eq, List.all_eq_true, Bool.not_eq_true', decide_eq_false_iff_not, List.mem_range]
end Geo
end
section
local macro_rules | `(tactic| trivial) => `(tactic| first | lia -abstractProof | omega)
set_option linter.unusedVariables false
namespace Geo
open Eh
def ptM (l : List Int) (i : Nat) : Whole := ⟨l.getD (3 * i) 0, l.getD (3 * i + 1) 0, l.getD (3 * i + 2) 0⟩
theorem pointsIn_eq : ∀ (l : List Int), pointsIn l = if l.length % 3 = 0 then some ((List.range (l.length / 3)).map (ptM l)) else none
  | [] => by simp [pointsIn]
  | [a] => by simp [pointsIn]
  | [a, b] => by simp [pointsIn]
  | x :: y :: s :: l => by
    have ih := pointsIn_eq l
    rw [pointsIn, ih]
    have e1 : (x :: y :: s :: l).length % 3 = l.length % 3 := by simp only [List.length_cons]; trivial
    have e2 : (x :: y :: s :: l).length / 3 = l.length / 3 + 1 := by simp only [List.length_cons]; trivial
    rw [e1, e2]
    by_cases h : l.length % 3 = 0
    · rw [if_pos h, if_pos h, List.range_succ_eq_map, List.map_cons, List.map_map]
      simp only [Option.map_some]
      congr 2
    · rw [if_neg h, if_neg h]; rfl
def rowM (p : List Int) (least most : Nat) : Bool := decide (p.length % 3 = 0) && (decide (least ≤ p.length / 3) && decide (p.length / 3 ≤ most))
theorem ofRows_eq (p e : List Int) (least ears : Nat) (f : List Whole → List Whole → Pl.Answer) : Pl.ofRows p e least ears f =
    if (rowM p least 8 && rowM e 1 ears) = true then f ((List.range (p.length / 3)).map (ptM p)) ((List.range (e.length / 3)).map (ptM e)) else .refused 1 := by
  unfold Pl.ofRows
  rw [pointsIn_eq, pointsIn_eq]
  by_cases h1 : p.length % 3 = 0
  · rw [if_pos h1]
    by_cases h2 : e.length % 3 = 0
    · rw [if_pos h2]
      simp only [List.length_map, List.length_range]
      by_cases h3 : p.length / 3 < least ∨ Pl.PLACES < p.length / 3 ∨ e.length / 3 < 1 ∨ ears < e.length / 3
      · rw [if_pos h3, if_neg]
        unfold rowM
        unfold Pl.PLACES at h3
        simp only [Bool.and_eq_true, decide_eq_true_eq]
        trivial
      · rw [if_neg h3, if_pos]
        unfold rowM
        unfold Pl.PLACES at h3
        simp only [Bool.and_eq_true, decide_eq_true_eq]
        trivial
    · rw [if_neg h2]
      simp only
      rw [if_neg]
      unfold rowM
      simp [h2]
  · rw [if_neg h1]
    simp only
    rw [if_neg]
    unfold rowM
    simp [h1]
def seesM (room : List Int) (a b : Whole) : Bool := insideM (cn room) (cu room) (room.getD 0 0) (a.x, a.y) a.z && (insideM (cn room) (cu room) (room.getD 0 0) (b.x, b.y) b.z && clearM (cn room) (cu room) (a.x, a.y) (b.x, b.y))
theorem good_room {room : List Int} (ef : roomFault room = none) : Good (roomL room) ∧ 3 ≤ cn room := by
  unfold roomFault at ef
  by_cases hl : lenM room = false
  · rw [if_pos hl] at ef; cases ef
  · rw [if_neg hl] at ef
    have hl2 : lenM room = true := by simpa using hl
    unfold lenM at hl2
    simp only [Bool.and_eq_true, decide_eq_true_eq] at hl2
    obtain ⟨m3, c3, c64⟩ := hl2
    by_cases hh : headM room = false
    · rw [if_pos hh] at ef; cases ef
    · rw [if_neg hh] at ef
      cases ec : (List.range (cn room)).find? fun i => !cornerM room i with
      | some i => rw [ec] at ef; cases ef
      | none =>
        rw [ec] at ef
        simp only at ef
        exact ⟨good_of (roomL_n room) (roomL_uc room (by trivial)) c3 ef, c3⟩
theorem seesM_eq {room : List Int} (h : roomFault room = none) (a b : Whole) : (roomL room).sees a.pt b.pt = seesM room a b := by
  have k := good_room h
  have k2 := k.2
  apply bool_ext
  unfold seesM
  rw [sees_iff k.1, Bool.and_eq_true, Bool.and_eq_true, ← withinM_iff k.1, ← withinM_iff k.1, ← clearM_iff, roomL_n, roomL_uc room (by trivial)]
  rfl
theorem find_ext {α : Type} {p q : α → Bool} (l : List α) (h : ∀ i, i ∈ l → p i = q i) : l.find? p = l.find? q := by
  induction l with
  | nil => rfl
  | cons a l ih =>
    rw [List.find?_cons, List.find?_cons, h a (by simp), ih fun i hi => h i (by simp [hi])]
theorem findSome_ext {α β : Type} {p q : α → Option β} (l : List α) (h : ∀ i, i ∈ l → p i = q i) : l.findSome? p = l.findSome? q := by
  induction l with
  | nil => rfl
  | cons a l ih =>
    rw [List.findSome?_cons, List.findSome?_cons, h a (by simp), ih fun i hi => h i (by simp [hi])]
theorem sets_mem : ∀ (k : Nat) (l s : List Nat), s ∈ sets k l → ∀ i ∈ s, i ∈ l
  | 0, l, s, h, i, hi => by
    rw [sets] at h
    simp only [List.mem_cons, List.not_mem_nil, or_false] at h
    subst h
    cases hi
  | k + 1, [], s, h, i, hi => by
    rw [sets] at h
    cases h
  | k + 1, a :: l, s, h, i, hi => by
    rw [sets, List.mem_append] at h
    cases h with
    | inl h =>
      rw [List.mem_map] at h
      obtain ⟨t, ht, rfl⟩ := h
      cases List.mem_cons.1 hi with
      | inl e => subst e; simp
      | inr e => exact List.mem_cons_of_mem _ (sets_mem k l t ht i e)
    | inr h => exact List.mem_cons_of_mem _ (sets_mem (k + 1) l s h i hi)
def coverAllM (see : Nat → Nat → Bool) (ne : Nat) (s : List Nat) : Bool := (List.range ne).all fun e => s.any fun i => see i e
def fewestM (see : Nat → Nat → Bool) (np ne : Nat) : Except Nat (List Nat) :=
  match (List.range ne).find? fun e => !((List.range np).any fun i => see i e) with
  | some e => .error e
  | none => .ok (((List.range (np + 1)).findSome? fun k => (sets k (List.range np)).find? (coverAllM see ne)).getD [])
theorem fewest_eq {room : List Int} (h : roomFault room = none) (p e : List Int) :
    fewest (roomL room) ((List.range (p.length / 3)).map (ptM p)) ((List.range (e.length / 3)).map (ptM e)) =
    fewestM (fun i j => seesM room (ptM p i) (ptM e j)) (p.length / 3) (e.length / 3) := by
  have hseen : seen (roomL room) ((List.range (p.length / 3)).map (ptM p)) ((List.range (e.length / 3)).map (ptM e)) =
      (List.range (p.length / 3)).map fun i => (List.range (e.length / 3)).filter fun j => seesM room (ptM p i) (ptM e j) := by
    unfold seen
    rw [List.map_map]
    refine List.map_congr_left fun i _ => ?_
    simp only [Function.comp, List.length_map, List.length_range]
    refine List.filter_congr fun j hj => ?_
    have hj' := List.mem_range.1 hj
    rw [List.getElem?_map, List.getElem?_range hj']
    simp only [Option.map_some]
    exact seesM_eq h _ _
  have hin : ∀ i j, i < p.length / 3 → j < e.length / 3 → (((List.range (p.length / 3)).map fun i => (List.range (e.length / 3)).filter fun j => seesM room (ptM p i) (ptM e j)).getD i []).contains j = seesM room (ptM p i) (ptM e j) := by
    intro i j hi hj
    rw [List.getD_eq_getElem?_getD, List.getElem?_map, List.getElem?_range hi]
    simp only [Option.map_some, Option.getD_some]
    apply bool_ext
    rw [List.contains_iff_mem, List.mem_filter, List.mem_range]
    exact ⟨fun x => x.2, fun x => ⟨hj, x⟩⟩
  unfold fewest fewestM
  rw [hseen]
  simp only [List.length_map, List.length_range]
  have hf : ((List.range (e.length / 3)).find? fun (j : Nat) => !(((List.range (p.length / 3)).map fun i => (List.range (e.length / 3)).filter fun j => seesM room (ptM p i) (ptM e j)).any fun (l : List Nat) => l.contains j)) =
      (List.range (e.length / 3)).find? fun j => !((List.range (p.length / 3)).any fun i => seesM room (ptM p i) (ptM e j)) := by
    refine find_ext _ fun j hj => ?_
    have hj' := List.mem_range.1 hj
    rw [List.any_map]
    congr 1
    apply bool_ext
    rw [List.any_eq_true, List.any_eq_true]
    constructor
    · rintro ⟨i, hi, hc⟩
      refine ⟨i, hi, ?_⟩
      simp only [Function.comp] at hc
      rw [List.contains_iff_mem, List.mem_filter] at hc
      exact hc.2
    · rintro ⟨i, hi, hc⟩
      refine ⟨i, hi, ?_⟩
      simp only [Function.comp]
      rw [List.contains_iff_mem, List.mem_filter]
      exact ⟨hj, hc⟩
  rw [hf]
  cases (List.range (e.length / 3)).find? fun j => !((List.range (p.length / 3)).any fun i => seesM room (ptM p i) (ptM e j)) with
  | some j => rfl
  | none =>
    simp only
    congr 2
    refine findSome_ext _ fun k _ => find_ext _ fun s hs => ?_
    unfold coversAll coverAllM
    have hmem := sets_mem k _ s hs
    apply bool_ext
    rw [List.all_eq_true, List.all_eq_true]
    refine forall_congr' fun j => ?_
    refine imp_congr_right fun hj => ?_
    have hj' := List.mem_range.1 hj
    rw [List.any_eq_true, List.any_eq_true]
    refine exists_congr fun i => ?_
    refine and_congr_right fun hi => ?_
    rw [hin i j (List.mem_range.1 (hmem i hi)) hj']
def coverM (room p e : List Int) : List Int :=
  match roomFault room with
  | some f => [-5, (f.1 : Int), (f.2 : Int)]
  | none => if (rowM p 0 8 && rowM e 1 16) = true then
      match fewestM (fun i j => seesM room (ptM p i) (ptM e j)) (p.length / 3) (e.length / 3) with
      | .error j => [-2, (j : Int)]
      | .ok s => 0 :: s.map fun (i : Nat) => (i : Int)
    else [-1]
theorem coverM_eq (room p e : List Int) : coverM room p e = PyYqbefa.cover room p e := by
  have e1 : PyYqbefa.cover room p e = PlNeutral.told (Pl.answer (.cover room p e)) := rfl
  rw [e1]
  show _ = PlNeutral.told (Pl.ofRoom room fun (r : Room) => Pl.ofRows p e 0 Pl.EARS fun (x y : List Whole) => match fewest r x y with
    | .error i => .ear i
    | .ok k => .nums (k.map fun (i : Nat) => (i : Int)))
  unfold Pl.ofRoom coverM
  rw [roomOf_eq]
  cases ef : roomFault room with
  | some f => rfl
  | none =>
    simp only
    rw [ofRows_eq]
    have e16 : Pl.EARS = 16 := rfl
    rw [e16]
    by_cases h : (rowM p 0 8 && rowM e 1 16) = true
    · rw [if_pos h, if_pos h, fewest_eq ef]
      cases fewestM (fun i j => seesM room (ptM p i) (ptM e j)) (p.length / 3) (e.length / 3) <;> rfl
    · rw [if_neg h, if_neg h]; rfl
end Geo
end
section
local macro_rules | `(tactic| trivial) => `(tactic| first | lia -abstractProof | omega)
set_option linter.unusedVariables false
namespace Geo
open Eh
def startM (a : Nat) (s : List Nat) : Nat := match s.getLast? with
  | none => a
  | some x => x + 1
def extM (n a : Nat) (s : List Nat) : List (List Nat) := (List.range' (startM a s) (n - startM a s)).map fun i => s ++ [i]
def riseM (n : Nat) : Nat → List (List Nat)
  | 0 => [[]]
  | k + 1 => (riseM n k).flatMap (extM n 0)
theorem sets_one : ∀ l : List Nat, sets 1 l = l.map fun i => [i]
  | [] => rfl
  | a :: l => by
    rw [sets, sets_one l, List.map_cons]
    cases l <;> rfl
theorem startM_cons (a b : Nat) (s : List Nat) (h : s ≠ []) : startM a (b :: s) = startM a s := by
  unfold startM
  cases s with
  | nil => exact absurd rfl h
  | cons c s => rw [List.getLast?_cons_cons]
theorem startM_ne (a b : Nat) {s : List Nat} (h : s ≠ []) : startM a s = startM b s := by
  unfold startM
  cases s with
  | nil => exact absurd rfl h
  | cons c s => rw [List.getLast?_eq_some_getLast (by simp)]
theorem extM_ne (n a b : Nat) {s : List Nat} (h : s ≠ []) : extM n a s = extM n b s := by
  unfold extM
  rw [startM_ne a b h]
theorem extM_cons (n a : Nat) (s : List Nat) : extM n a (a :: s) = (extM n (a + 1) s).map fun t => a :: t := by
  have e : startM a (a :: s) = startM (a + 1) s := by
    cases s with
    | nil => rfl
    | cons c s => rw [startM_cons a a (c :: s) (by simp)]; exact startM_ne a (a + 1) (by simp)
  unfold extM
  rw [e, List.map_map]
  rfl
theorem sets_ne : ∀ (k : Nat) (l s : List Nat), s ∈ sets (k + 1) l → s ≠ []
  | k, [], s, h => by rw [sets] at h; cases h
  | k, a :: l, s, h => by
    rw [sets, List.mem_append] at h
    cases h with
    | inl h =>
      rw [List.mem_map] at h
      obtain ⟨t, _, rfl⟩ := h
      simp
    | inr h => exact sets_ne k l s h
theorem flat_congr {α β : Type} {f g : α → List β} : ∀ (l : List α), (∀ x ∈ l, f x = g x) → l.flatMap f = l.flatMap g
  | [], _ => rfl
  | a :: l, h => by rw [List.flatMap_cons, List.flatMap_cons, h a List.mem_cons_self, flat_congr l fun x hx => h x (List.mem_cons_of_mem _ hx)]
theorem sets_ext (n : Nat) : ∀ (m k a : Nat), n - a = m → (sets k (List.range' a m)).flatMap (extM n a) = sets (k + 1) (List.range' a m)
  | m, 0, a, h => by
    rw [sets_one]
    have : sets 0 (List.range' a m) = [[]] := by cases List.range' a m <;> rfl
    rw [this, List.flatMap_cons, List.flatMap_nil, List.append_nil]
    unfold extM
    show List.map _ (List.range' a (n - a)) = _
    rw [h]
    rfl
  | 0, k + 1, a, h => rfl
  | m + 1, k + 1, a, h => by
    rw [List.range'_succ]
    have i1 := sets_ext n m k (a + 1) (by omega)
    have i2 := sets_ext n m (k + 1) (a + 1) (by omega)
    show ((sets k (List.range' (a + 1) m)).map (a :: ·) ++ sets (k + 1) (List.range' (a + 1) m)).flatMap (extM n a) = (sets (k + 1) (List.range' (a + 1) m)).map (a :: ·) ++ sets (k + 2) (List.range' (a + 1) m)
    rw [List.flatMap_append]
    congr 1
    · rw [← i1, List.flatMap_map, List.map_flatMap]
      exact flat_congr _ fun s _ => extM_cons n a s
    · rw [← i2]
      exact flat_congr _ fun s hs => extM_ne n a (a + 1) (sets_ne k _ s hs)
theorem riseM_eq (n : Nat) : ∀ k, riseM n k = sets k (List.range n)
  | 0 => by
    show [[]] = _
    cases List.range n <;> rfl
  | k + 1 => by
    show (riseM n k).flatMap (extM n 0) = _
    rw [riseM_eq n k, List.range_eq_range']
    exact sets_ext n n k 0 rfl
def risM (n : Nat) : List (List Nat) := (List.range (n + 1)).flatMap (riseM n)
def missM (see : Nat → Nat → Bool) (ne : Nat) (s : List Nat) : Option Nat := (List.range ne).find? fun e => !(s.any fun i => see i e)
def fewM (see : Nat → Nat → Bool) (np ne : Nat) : Option (List Nat) := (risM np).find? fun s => (missM see ne s).isNone
theorem ris_mem {n : Nat} {s : List Nat} (h : s ∈ risM n) : ∀ i ∈ s, i < n := by
  unfold risM at h
  rw [List.mem_flatMap] at h
  obtain ⟨k, _, hk⟩ := h
  rw [riseM_eq] at hk
  exact fun i hi => List.mem_range.1 (sets_mem k _ s hk i hi)
theorem sets_full : ∀ l : List Nat, l ∈ sets l.length l
  | [] => by simp [sets]
  | a :: l => by
    show a :: l ∈ (sets l.length l).map (a :: ·) ++ sets (l.length + 1) l
    rw [List.mem_append, List.mem_map]
    exact .inl ⟨l, sets_full l, rfl⟩
theorem ris_full (n : Nat) : List.range n ∈ risM n := by
  unfold risM
  rw [List.mem_flatMap]
  refine ⟨n, List.mem_range.2 (by omega), ?_⟩
  rw [riseM_eq]
  have := sets_full (List.range n)
  rwa [List.length_range] at this
theorem miss_none {see : Nat → Nat → Bool} {ne : Nat} {s : List Nat} : (missM see ne s).isNone = coverAllM see ne s := by
  apply bool_ext
  unfold missM coverAllM
  rw [Option.isNone_iff_eq_none, List.find?_eq_none, List.all_eq_true]
  refine forall_congr' fun e => imp_congr_right fun _ => ?_
  simp
theorem few_none {see : Nat → Nat → Bool} {np ne : Nat} (h : fewM see np ne = none) : ∃ e, missM see ne (List.range np) = some e ∧ fewestM see np ne = .error e := by
  unfold fewM at h
  have := List.find?_eq_none.1 h _ (ris_full np)
  cases e : missM see ne (List.range np) with
  | none => rw [e] at this; simp at this
  | some j =>
    refine ⟨j, rfl, ?_⟩
    unfold missM at e
    unfold fewestM
    rw [e]
theorem few_some {see : Nat → Nat → Bool} {np ne : Nat} {s : List Nat} (h : fewM see np ne = some s) : fewestM see np ne = .ok s := by
  have h1 := List.find?_some h
  have h2 := ris_mem (List.mem_of_find?_eq_some h)
  simp only [Option.isNone_iff_eq_none] at h1
  have h3 : (List.range ne).find? (fun e => !((List.range np).any fun i => see i e)) = none := by
    rw [List.find?_eq_none]
    intro e he
    have := List.find?_eq_none.1 h1 e he
    simp only [Bool.not_eq_true', Bool.not_eq_false, List.any_eq_true] at this ⊢
    obtain ⟨i, hi, hs⟩ := this
    exact ⟨i, List.mem_range.2 (h2 i hi), hs⟩
  unfold fewestM
  rw [h3]
  simp only
  have h4 : (List.range (np + 1)).findSome? (fun k => (sets k (List.range np)).find? (coverAllM see ne)) = some s := by
    rw [← h]
    unfold fewM risM
    rw [List.find?_flatMap]
    refine findSome_ext _ fun k _ => ?_
    rw [riseM_eq]
    exact find_ext _ fun t _ => miss_none.symm
  rw [h4]
  rfl
theorem cover_few {room p e : List Int} (ef : roomFault room = none) (hr : (rowM p 0 8 && rowM e 1 16) = true) :
    coverM room p e = match fewM (fun i j => seesM room (ptM p i) (ptM e j)) (p.length / 3) (e.length / 3) with
      | some s => 0 :: s.map fun (i : Nat) => (i : Int)
      | none => [-2, (((missM (fun i j => seesM room (ptM p i) (ptM e j)) (e.length / 3) (List.range (p.length / 3))).getD 0 : Nat) : Int)] := by
  unfold coverM
  rw [ef]
  simp only
  rw [if_pos hr]
  cases h : fewM (fun i j => seesM room (ptM p i) (ptM e j)) (p.length / 3) (e.length / 3) with
  | some s => rw [few_some h]
  | none =>
    obtain ⟨j, h1, h2⟩ := few_none h
    rw [h1, h2]
    rfl
end Geo
end
section
namespace Pr
open PySem
def top (i : Nat) : Stmt := PySem.Challenge.pw_hearingplaces_s05_cover.main.body.getD i (.Pass ⟨0, 0, 0, 0⟩)
abbrev st_book_fault : Stmt := top 3
abbrev st_rising_rows : Stmt := top 5
abbrev st_first_missed : Stmt := top 6
abbrev st_fewest : Stmt := top 7
abbrev st_side : Stmt := top 14
abbrev st_spans_meet : Stmt := top 15
abbrev st_lines_meet : Stmt := top 16
abbrev st_corners_of : Stmt := top 17
abbrev st_lines_of : Stmt := top 18
abbrev st_is_stuff : Stmt := top 19
abbrev st_is_length_right : Stmt := top 20
abbrev st_is_head_right : Stmt := top 21
abbrev st_is_corner_right : Stmt := top 22
abbrev st_is_direction_right : Stmt := top 23
abbrev st_wrong_corner : Stmt := top 24
abbrev st_wrong_direction : Stmt := top 25
abbrev st_straight_corner : Stmt := top 26
abbrev st_meets_far_line : Stmt := top 27
abbrev st_crossed_line : Stmt := top 28
abbrev st_is_room_left : Stmt := top 29
abbrev st_lines_fault : Stmt := top 30
abbrev st_room_fault : Stmt := top 31
abbrev st_is_within : Stmt := top 32
abbrev st_is_inside : Stmt := top 33
abbrev st_is_clear : Stmt := top 34
abbrev st_are_points_right : Stmt := top 38
abbrev st_points_of : Stmt := top 39
abbrev st_refusal : Stmt := top 40
abbrev st_clear_from : Stmt := top 41
abbrev st_cover : Stmt := top 42
end Pr
end
section
local macro_rules | `(tactic| trivial) => `(tactic| first | lia -abstractProof | omega)
set_option Elab.async false
set_option linter.all false
set_option maxRecDepth 100000
set_option maxHeartbeats 2000000
namespace Pr
open PySem PySem.Spec PyProof.Rows L2
abbrev ib (z : Int) : Nat := Builtin.Int.intBits z
def CMulB (i j : Int) : Prop := ib i ≤ 1000000 ∧ ib j ≤ 1000000
theorem op_mulB {X : Cx} : OpR X (binaryOp .Mult) (rI CMulB fun i j => .int (i * j)) := opI fun _ _ _ _ _ _ _ hc q => mul_int q (IntMulOk.of_le hc.1 hc.2 (by decide))
structure Bt (p : Geo.V) : Prop where
  x : ib p.1 ≤ 100000
  y : ib p.2 ≤ 100000
theorem dif_bits {a b : Int} (ha : ib a ≤ 100000) (hb : ib b ≤ 100000) : ib (a - b) ≤ 1000000 := Nat.le_trans (intBits_sub_le ha hb) (by decide)
theorem prod_bits {a b c d : Int} (ha : ib a ≤ 100000) (hb : ib b ≤ 100000) (hc : ib c ≤ 100000) (hd : ib d ≤ 100000) : ib ((a - b) * (c - d)) ≤ 200002 :=
  Nat.le_trans (intBits_mul_le (intBits_sub_le ha hb) (intBits_sub_le hc hd)) (by decide)
theorem sd_bits {a b p : Geo.V} (ha : Bt a) (hb : Bt b) (hp : Bt p) : ib (Geo.sd a b p) ≤ 1000000 :=
  Nat.le_trans (intBits_sub_le (prod_bits hb.x ha.x hp.y ha.y) (prod_bits hb.y ha.y hp.x ha.x)) (by decide)
theorem iteB {c : Bool} {A B : Prop} (h1 : c = true → A) (h2 : c = false → B) : if c = true then A else B := by
  cases c with
  | true => rw [if_pos rfl]; exact h1 rfl
  | false => rw [if_neg Bool.false_ne_true]; exact h2 rfl
theorem Same.tup {K : PySem.W.Frag} {H H' : Hp} {a : Addr} {xs : List L2.V} (e : Same H H') (h : SqT K H a xs) : SqT K H' a xs := by
  rcases h with (h | ⟨o, h⟩) | h
  · exact .inl (.inl (e _ _ h))
  · exact .inl (.inr ⟨o, e _ _ h⟩)
  · exact .inr h
theorem Same.upd {H H' : Hp} {l : Addr} {o : HO} (e : Same H H') (h : H' l = none) : Same H (upd H' l o) := fun b o' q => by
  rw [upd_ne (ne_of_none (e b o' q) h)]
  exact e b o' q
def CoAt (K : PySem.W.Frag) (H : Hp) (v : L2.V) (i : Nat) (c : Int) : Prop := ∃ a xs, v = L2.V.ref a ∧ SqT K H a xs ∧ xs[i]? = some (.int c)
def PtAt (K : PySem.W.Frag) (H : Hp) (v : L2.V) (p : Geo.V) : Prop := ∃ a xs, v = L2.V.ref a ∧ SqT K H a xs ∧ xs[0]? = some (.int p.1) ∧ xs[1]? = some (.int p.2)
def LineAt (K : PySem.W.Frag) (H : Hp) (v : L2.V) (a b : Geo.V) : Prop := ∃ l va vb, v = L2.V.ref l ∧ SqT K H l [va, vb] ∧ PtAt K H va a ∧ PtAt K H vb b
def LinesAt (K : PySem.W.Frag) (H : Hp) (v : L2.V) (n : Nat) (u : Nat → Geo.V) : Prop := ∃ l vs, v = L2.V.ref l ∧ SqL K H l vs ∧ vs.length = n ∧ ∀ i x, vs[i]? = some x → LineAt K H x (u i) (u (i + 1))
def RoomAt (K : PySem.W.Frag) (H : Hp) (v : L2.V) (ns : List Int) : Prop := ∃ l, v = L2.V.ref l ∧ SqL K H l (ns.map L2.V.int)
theorem PtAt.co0 {K : PySem.W.Frag} {H : Hp} {v : L2.V} {p : Geo.V} (h : PtAt K H v p) : CoAt K H v 0 p.1 := by
  obtain ⟨a, xs, e, s, h0, h1⟩ := h; exact ⟨a, xs, e, s, h0⟩
theorem PtAt.co1 {K : PySem.W.Frag} {H : Hp} {v : L2.V} {p : Geo.V} (h : PtAt K H v p) : CoAt K H v 1 p.2 := by
  obtain ⟨a, xs, e, s, h0, h1⟩ := h; exact ⟨a, xs, e, s, h1⟩
theorem PtAt.mono {K : PySem.W.Frag} {H H' : Hp} {v : L2.V} {p : Geo.V} (s : Same H H') (h : PtAt K H v p) : PtAt K H' v p := by
  obtain ⟨a, xs, e, q, h0, h1⟩ := h; exact ⟨a, xs, e, Same.tup s q, h0, h1⟩
theorem CoAt.mono {K : PySem.W.Frag} {H H' : Hp} {v : L2.V} {i : Nat} {c : Int} (s : Same H H') (h : CoAt K H v i c) : CoAt K H' v i c := by
  obtain ⟨a, xs, e, q, h0⟩ := h; exact ⟨a, xs, e, Same.tup s q, h0⟩
theorem LineAt.mono {K : PySem.W.Frag} {H H' : Hp} {v : L2.V} {a b : Geo.V} (s : Same H H') (h : LineAt K H v a b) : LineAt K H' v a b := by
  obtain ⟨l, va, vb, e, q, h0, h1⟩ := h; exact ⟨l, va, vb, e, Same.tup s q, h0.mono s, h1.mono s⟩
theorem LinesAt.mono {K : PySem.W.Frag} {H H' : Hp} {v : L2.V} {n : Nat} {u : Nat → Geo.V} (s : Same H H') (h : LinesAt K H v n u) : LinesAt K H' v n u := by
  obtain ⟨l, vs, e, q, hl, h⟩ := h; exact ⟨l, vs, e, s.seq q, hl, fun i x hx => (h i x hx).mono s⟩
theorem RoomAt.mono {K : PySem.W.Frag} {H H' : Hp} {v : L2.V} {ns : List Int} (s : Same H H') (h : RoomAt K H v ns) : RoomAt K H' v ns := by
  obtain ⟨l, e, q⟩ := h; exact ⟨l, e, s.seq q⟩
theorem at0 {α : Type} {xs : List α} {v : α} (h : xs[0]? = some v) : atI xs 0 = some v := atI_nat (j := 0) h
theorem at1 {α : Type} {xs : List α} {v : α} (h : xs[1]? = some v) : atI xs 1 = some v := atI_nat (j := 1) h
theorem at2 {α : Type} {xs : List α} {v : α} (h : xs[2]? = some v) : atI xs 2 = some v := atI_nat (j := 2) h
theorem room_at {ns : List Int} {i : Nat} (h : i < ns.length) : (ns.map L2.V.int)[i]? = some (.int (ns.getD i 0)) := by
  rw [List.getElem?_map, List.getD_eq_getElem?_getD, List.getElem?_eq_getElem h]; rfl
structure Txt (mg : Str → Option Value) : Prop where
  head : ∃ t, mg "HEAD" = some (.int 3 t)
  least : ∃ t, mg "LEAST_CORNERS" = some (.int 3 t)
  most : ∃ t, mg "MOST_CORNERS" = some (.int 64 t)
  length : ∃ t, mg "LARGEST_LENGTH" = some (.int 4095 t)
  stuff : ∃ t, mg "LARGEST_STUFF" = some (.int 7 t)
  range : mg "range" = none
  len : mg "len" = none
  min : mg "min" = none
  max : mg "max" = none
  abs : mg "abs" = none
  sum : mg "sum" = none
  enum : mg "enumerate" = none
section
variable {P : Program} {w : World} {K : PySem.W.Frag} {mg : Str → Option Value} {base : Heap} {f : Addr} {fd : FuncData}
structure Cal (P : Program) (w : World) (K : PySem.W.Frag) (mg : Str → Option Value) (base : Heap) (k : Nat) (x : Str) (ps : List Str) (sp : Sp) : Prop where
  ex : ∃ f fd, FnOk P w K mg base CX0 k f fd ps sp ∧ mg x = some (.ref f) ∧ PySem.W.keepIn K (.ref f) = true ∧ Binds K fd ps []
def spSide (K : PySem.W.Frag) : Sp := fun vs H Q _ => ∃ va vb vp a b p, vs = [va, vb, vp] ∧ PtAt K H va a ∧ PtAt K H vb b ∧ PtAt K H vp p ∧ (Bt a ∧ Bt b ∧ Bt p) ∧ Q (.int (Geo.sd a b p)) H
theorem scSide : FnScope ["a", "b", "p"] ["a", "b", "p"] (defScope st_side) := ⟨rfl, rfl, rfl, by decide +kernel, rfl, by decide +kernel, by decide +kernel⟩
def spSpans (K : PySem.W.Frag) : Sp := fun vs H Q _ => ∃ (va vb vc vd : L2.V) (i : Nat) (a b c d : Int), vs = [va, vb, vc, vd, .int i] ∧ CoAt K H va i a ∧ CoAt K H vb i b ∧ CoAt K H vc i c ∧ CoAt K H vd i d ∧
  Q (.bl (decide (min a b ≤ max c d) && decide (min c d ≤ max a b))) H
theorem scSpans : FnScope ["a", "b", "c", "d", "axis"] ["a", "b", "c", "d", "axis"] (defScope st_spans_meet) := ⟨rfl, rfl, rfl, by decide +kernel, rfl, by decide +kernel, by decide +kernel⟩
theorem min_if (a b : Int) : (if b < a then b else a) = min a b := by split <;> trivial
theorem max_if (a b : Int) : (if b > a then b else a) = max a b := by split <;> trivial
def spMeet (K : PySem.W.Frag) : Sp := fun vs H Q _ => ∃ va vb vc vd a b c d, vs = [va, vb, vc, vd] ∧ PtAt K H va a ∧ PtAt K H vb b ∧ PtAt K H vc c ∧ PtAt K H vd d ∧ (Bt a ∧ Bt b ∧ Bt c ∧ Bt d) ∧
  Q (.bl (decide (Geo.lm a b c d))) H
theorem scMeet : FnScope ["a", "b", "c", "d"] ["a", "b", "c", "d"] (defScope st_lines_meet) := ⟨rfl, rfl, rfl, by decide +kernel, rfl, by decide +kernel, by decide +kernel⟩
end
end Pr
end
section
local macro_rules | `(tactic| trivial) => `(tactic| first | lia -abstractProof | omega)
set_option Elab.async false
set_option linter.all false
set_option maxRecDepth 100000
set_option maxHeartbeats 2000000
namespace Pr
open PySem PySem.Spec PyProof.Rows L2
section
variable {P : Program} {w : World} {K : PySem.W.Frag} {mg : Str → Option Value} {base : Heap} {f : Addr} {fd : FuncData}
def spStuff : Sp := fun vs H Q _ => ∃ z, vs = [.int z] ∧ Q (.bl (Geo.stuffM z)) H
theorem scStuff : FnScope ["number"] ["number"] (defScope st_is_stuff) := ⟨rfl, rfl, rfl, by decide +kernel, rfl, by decide +kernel, by decide +kernel⟩
def spLen (K : PySem.W.Frag) : Sp := fun vs H Q _ => ∃ v ns, vs = [v] ∧ RoomAt K H v ns ∧ Q (.bl (Geo.lenM ns)) H
theorem scLen : FnScope ["room"] ["room"] (defScope st_is_length_right) := ⟨rfl, rfl, rfl, by decide +kernel, rfl, by decide +kernel, by decide +kernel⟩
def spHead (K : PySem.W.Frag) : Sp := fun vs H Q _ => ∃ v ns, vs = [v] ∧ RoomAt K H v ns ∧ 3 ≤ ns.length ∧ Q (.bl (Geo.headM ns)) H
theorem scHead : FnScope ["room"] ["room"] (defScope st_is_head_right) := ⟨rfl, rfl, rfl, by decide +kernel, rfl, by decide +kernel, by decide +kernel⟩
def spCorner : Sp := fun vs H Q _ => ∃ x y z : Int, vs = [.int x, .int y, .int z] ∧ Q (.bl ((decide (0 ≤ x) && decide (x ≤ 4095)) && ((decide (0 ≤ y) && decide (y ≤ 4095)) && Geo.stuffM z))) H
theorem scCorner : FnScope ["x", "y", "stuff"] ["x", "y", "stuff"] (defScope st_is_corner_right) := ⟨rfl, rfl, rfl, by decide +kernel, rfl, by decide +kernel, by decide +kernel⟩
def spDir (K : PySem.W.Frag) : Sp := fun vs H Q _ => ∃ v a b, vs = [v] ∧ LineAt K H v a b ∧ Q (.bl (Geo.dirM a b)) H
theorem scDir : FnScope ["line", "dx", "dy"] ["line"] (defScope st_is_direction_right) := ⟨rfl, rfl, rfl, by decide +kernel, rfl, by decide +kernel, by decide +kernel⟩
theorem abs_if (i : Int) : (if i < 0 then -i else i) = (i.natAbs : Int) := by split <;> trivial
end
end Pr
end
section
local macro_rules | `(tactic| trivial) => `(tactic| first | lia -abstractProof | omega)
set_option Elab.async false
set_option linter.all false
set_option maxRecDepth 100000
set_option maxHeartbeats 2000000
namespace Pr
open PySem PySem.Spec PyProof.Rows L2
theorem lc_rangeC {lo c : Int} {n : Nat} {g : TG} {tt : TT} {te : TE} {vs : List Nat} {σ : L2.St} {H1 : Hp} {D : Addr} {Qd : Hp → Prop} (Pv : Nat → Hp → Prop) (h0 : Pv 0 (upd H1 D (.lst [])))
    (hs : ∀ i H, i < n → Pv i H → g (.int (lo + (i : Nat) * c)) (wipe σ vs) H fun σ2 H2 => wipe σ2 vs = wipe σ vs ∧ tt σ2 H2 fun b H3 =>
      if b = true then te σ2 H3 fun y H4 => ∃ acc, H4 D = some (.lst acc) ∧ acc.length < sizeLine ∧ Pv (i + 1) (upd H4 D (.lst (acc ++ [y]))) else Pv (i + 1) H3) (hd : ∀ H, Pv n H → Qd H) :
    ∃ W : Nat → Nat → Hp → Prop, (∃ m, W 0 m (upd H1 D (.lst []))) ∧ ∀ i m H, W i m H →
      ((Itc lo c n).stop i H ∧ Qd H) ∨ ((Itc lo c n).go i H ∧ ∃ Nx : Hp → Prop, (∀ H', Nx H' → ∃ m', m' < m ∧ W (i + 1) m' H') ∧ ∀ x H', (Itc lo c n).yld i H x H' → g x (wipe σ vs) H' fun σ2 H2 => wipe σ2 vs = wipe σ vs ∧ tt σ2 H2 fun b H3 =>
        if b = true then te σ2 H3 fun y H4 => ∃ acc, H4 D = some (.lst acc) ∧ acc.length < sizeLine ∧ Nx (upd H4 D (.lst (acc ++ [y]))) else Nx H3) := by
  refine ⟨fun i m H => m = n - i ∧ i ≤ n ∧ Pv i H, ⟨n, by simp, Nat.zero_le _, h0⟩, ?_⟩
  rintro i m H ⟨rfl, hi, p⟩
  by_cases hlt : i < n
  · refine .inr ⟨hlt, Pv (i + 1), fun H' p' => ⟨n - (i + 1), by trivial, rfl, hlt, p'⟩, fun x H' y => ?_⟩
    obtain ⟨e, y⟩ := y
    subst e y
    exact hs i _ hlt p
  · have e : i = n := by trivial
    subst e
    exact .inl ⟨Nat.le_refl _, hd H p⟩
theorem for_enum {K : PySem.W.Frag} {a : Addr} {xs : List L2.V} {g : TG} {tb : TS} {D : Ends} {σ : L2.St} {H : Hp} (Pv : Nat → L2.St → Hp → Prop) (h0 : Pv 0 σ H) (hl : ∀ i σ H, i ≤ xs.length → Pv i σ H → SqL K H a xs)
    (hs : ∀ i x σ H T, xs[i]? = some x → Pv i σ H → H T = none → g (.ref T) σ (upd H T (.tup [.int (i : Nat), x])) fun σ2 H2 => tb { D with nx := Pv (i + 1), ct := Pv (i + 1), bk := D.nx } σ2 H2) (hd : ∀ σ H, Pv xs.length σ H → D.nx σ H) :
    ∃ W : Nat → Nat → L2.St → Hp → Prop, (∃ m, W 0 m σ H) ∧ ∀ i m σ H, W i m σ H →
      ((Ite K a).stop i H ∧ D.nx σ H) ∨ ((Ite K a).go i H ∧ ∃ N : L2.St → Hp → Prop, (∀ σ' H', N σ' H' → ∃ m', m' < m ∧ W (i + 1) m' σ' H') ∧ ∀ x H', (Ite K a).yld i H x H' → g x σ H' fun σ2 H2 => tb { D with nx := N, ct := N, bk := D.nx } σ2 H2) := by
  refine ⟨fun i m σ H => m = xs.length - i ∧ i ≤ xs.length ∧ Pv i σ H, ⟨xs.length, by simp, Nat.zero_le _, h0⟩, ?_⟩
  rintro i m σ H ⟨rfl, hi, p⟩
  have q := hl i σ H hi p
  by_cases hlt : i < xs.length
  · refine .inr ⟨⟨xs, xs[i], q, by simp [hlt]⟩, Pv (i + 1), fun σ' H' p' => ⟨xs.length - (i + 1), by trivial, rfl, hlt, p'⟩, fun x H' y => ?_⟩
    obtain ⟨T, z, rfl, hT, rfl, y⟩ := y
    exact hs i z σ H T (y xs q) p hT
  · have e : i = xs.length := by trivial
    subst e
    exact .inl ⟨⟨xs, q, Nat.le_refl _⟩, hd σ H p⟩
theorem rg3 {n : Nat} (h : n ≤ 1000) : RgC 3 ((3 + 3 * n : Nat) : Int) 3 n := by
  have e : Builtin.Range.rangeSize 3 ((3 + 3 * n : Nat) : Int) 3 = n := by
    unfold Builtin.Range.rangeSize
    simp only [show (3 : Int) > 0 by decide, if_true]
    split <;> trivial
  refine ⟨by decide, by decide, ?_, e⟩
  unfold Builtin.Range.small
  rw [e]
  have fit : ∀ z : Int, 0 ≤ z → z ≤ 100000 → Builtin.Range.rangeFitsLong z = true := by
    intro z h1 h2
    unfold Builtin.Range.rangeFitsLong
    rw [Bool.and_eq_true, decide_eq_true_eq, decide_eq_true_eq]
    trivial
  rw [fit 3 (by decide) (by decide), fit _ (by trivial) (by trivial), fit n (by trivial) (by trivial), if_pos (by decide), fit _ (by trivial) (by trivial)]
  simp
theorem Same.set {H H' : Hp} {D : Addr} {o : HO} (hD : H D = none) (s : Same H H') : Same H (L2.upd H' D o) := fun b o' e => by
  rw [upd_ne (fun q => by rw [q, hD] at e; cases e)]
  exact s b o' e
theorem SqT.set {K : PySem.W.Frag} {H : Hp} {D a : Addr} {acc acc' xs : List L2.V} (hD : H D = some (.lst acc)) (h : SqT K H a xs) : SqT K (L2.upd H D (.lst acc')) a xs := by
  rcases h with (h | ⟨o, h⟩) | h
  · refine .inl (.inl ?_)
    rw [upd_ne (fun q => by rw [q, hD] at h; cases h)]
    exact h
  · refine .inl (.inr ⟨o, ?_⟩)
    rw [upd_ne (fun q => by rw [q, hD] at h; cases h)]
    exact h
  · exact .inr h
theorem PtAt.set {K : PySem.W.Frag} {H : Hp} {D : Addr} {acc acc' : List L2.V} {v : L2.V} {p : Geo.V} (hD : H D = some (.lst acc)) (h : PtAt K H v p) : PtAt K (L2.upd H D (.lst acc')) v p := by
  obtain ⟨a, xs, e, q, h0, h1⟩ := h; exact ⟨a, xs, e, SqT.set hD q, h0, h1⟩
theorem CoAt.set {K : PySem.W.Frag} {H : Hp} {D : Addr} {acc acc' : List L2.V} {v : L2.V} {i : Nat} {c : Int} (hD : H D = some (.lst acc)) (h : CoAt K H v i c) : CoAt K (L2.upd H D (.lst acc')) v i c := by
  obtain ⟨a, xs, e, q, h0⟩ := h; exact ⟨a, xs, e, SqT.set hD q, h0⟩
theorem LineAt.set {K : PySem.W.Frag} {H : Hp} {D : Addr} {acc acc' : List L2.V} {v : L2.V} {a b : Geo.V} (hD : H D = some (.lst acc)) (h : LineAt K H v a b) : LineAt K (L2.upd H D (.lst acc')) v a b := by
  obtain ⟨l, va, vb, e, q, h0, h1⟩ := h; exact ⟨l, va, vb, e, SqT.set hD q, h0.set hD, h1.set hD⟩
theorem snoc_get {α : Type} {xs : List α} {y x : α} {j : Nat} (h : (xs ++ [y])[j]? = some x) : (j < xs.length ∧ xs[j]? = some x) ∨ (j = xs.length ∧ x = y) := by
  by_cases hj : j < xs.length
  · rw [List.getElem?_append_left hj] at h; exact .inl ⟨hj, h⟩
  · rw [List.getElem?_append_right (by trivial)] at h
    right
    cases hk : j - xs.length with
    | zero => rw [hk] at h; exact ⟨by trivial, (Option.some.inj h).symm⟩
    | succ m => rw [hk] at h; simp at h
theorem ixl {X : Cx} {K : PySem.W.Frag} (h : X.K = K) : IxR X (rIxL K) := by subst h; exact ix_list
theorem ixt {X : Cx} {K : PySem.W.Frag} (h : X.K = K) : IxR X (rIxT K) := by subst h; exact ix_tup
theorem pgt {X : Cx} {K : PySem.W.Frag} (hK : X.K = K) {es : List Expr} {k : Nat} {t : TGs} {n : Nat} {pos : Pos} (hc : X.calm = true) (h : PGs X es t)
    (hn : (assignEach es X.env).length = n := by rfl) (hst : (assignEach es X.env).findIdx? (·.1) = none := by rfl) : PG X (.Tuple es k pos) (gTup K n t) := by subst hK; exact pg_tup hc h hn hst
section
variable {P : Program} {w : World} {K : PySem.W.Frag} {mg : Str → Option Value} {base : Heap} {f : Addr} {fd : FuncData}
def cnr (ns : List Int) (i : Nat) : Geo.V := (ns.getD (3 + 3 * i) 0, ns.getD (3 + 3 * i + 1) 0)
def CornersAt (K : PySem.W.Frag) (H : Hp) (v : L2.V) (n : Nat) (c : Nat → Geo.V) : Prop := ∃ l vs, v = L2.V.ref l ∧ SqL K H l vs ∧ vs.length = n ∧ ∀ i x, vs[i]? = some x → PtAt K H x (c i)
theorem CornersAt.mono {H H' : Hp} {v : L2.V} {n : Nat} {u : Nat → Geo.V} (s : Same H H') (h : CornersAt K H v n u) : CornersAt K H' v n u := by
  obtain ⟨l, vs, e, q, hl, h⟩ := h; exact ⟨l, vs, e, s.seq q, hl, fun i x hx => (h i x hx).mono s⟩
def spCorners (K : PySem.W.Frag) : Sp := fun vs H Q _ => ∃ v ns n, vs = [v] ∧ RoomAt K H v ns ∧ ns.length = 3 + 3 * n ∧ n ≤ 64 ∧ ∀ H' x, Same H H' → CornersAt K H' x n (cnr ns) → Q x H'
theorem scCorners : FnScope ["room", "k"] ["room"] (defScope st_corners_of) := ⟨rfl, rfl, rfl, by decide +kernel, rfl, by decide +kernel, by decide +kernel⟩
theorem blkCorners : blkC ["room", "k"] (defScope st_corners_of) { kind := .function, names := [(Str.ofString ".0", .local), (Str.ofString "k", .local), (Str.ofString "room", .free)], isGenerator := false, isCoroutine := false } [("k", 1)] = true := by decide +kernel
def spLines (K : PySem.W.Frag) : Sp := fun vs H Q _ => ∃ v ns n, vs = [v] ∧ RoomAt K H v ns ∧ ns.length = 3 + 3 * n ∧ 1 ≤ n ∧ n ≤ 64 ∧ ∀ H' x, Same H H' → LinesAt K H' x n (Geo.cu ns) → Q x H'
theorem scLines : FnScope ["room", "corners", "i"] ["room"] (defScope st_lines_of) := ⟨rfl, rfl, rfl, by decide +kernel, rfl, by decide +kernel, by decide +kernel⟩
theorem blkLines : blkC ["room", "corners", "i"] (defScope st_lines_of) { kind := .function, names := [(Str.ofString ".0", .local), (Str.ofString "i", .local), (Str.ofString "corners", .free)], isGenerator := false, isCoroutine := false } [("i", 2)] = true := by decide +kernel
end
end Pr
end
section
local macro_rules | `(tactic| trivial) => `(tactic| first | lia -abstractProof | omega)
set_option Elab.async false
set_option linter.all false
set_option maxRecDepth 100000
set_option maxHeartbeats 2000000
namespace Pr
open PySem PySem.Spec PyProof.Rows L2
def oV (o : Option Nat) : L2.V := match o with
  | some i => .int (i : Nat)
  | none => .non
theorem find_at {p : Nat → Bool} {n i : Nat} (h : i < n) (hp : p i = true) (hb : ∀ j, j < i → p j = false) : (List.range n).find? p = some i :=
  List.find?_range_eq_some.2 ⟨hp, List.mem_range.2 h, fun j hj => by rw [hb j hj]; rfl⟩
theorem find_no {p : Nat → Bool} {n : Nat} (hb : ∀ j, j < n → p j = false) : (List.range n).find? p = none :=
  List.find?_range_eq_none.2 fun j hj => by rw [hb j hj]; rfl
theorem upto {p : Nat → Prop} {i : Nat} (h : ∀ j, j < i → p j) (hi : p i) : ∀ j, j < i + 1 → p j := fun j hj => by
  by_cases e : j = i
  · subst e; exact hi
  · exact h j (by trivial)
section
variable {P : Program} {w : World} {K : PySem.W.Frag} {mg : Str → Option Value} {base : Heap} {f : Addr} {fd : FuncData}
def spWC (K : PySem.W.Frag) : Sp := fun vs H Q _ => ∃ v ns n, vs = [v] ∧ RoomAt K H v ns ∧ ns.length = 3 + 3 * n ∧ n ≤ 64 ∧ Q (oV ((List.range n).find? fun i => !Geo.cornerM ns i)) H
theorem scWC : FnScope ["room", "k"] ["room"] (defScope st_wrong_corner) := ⟨rfl, rfl, rfl, by decide +kernel, rfl, by decide +kernel, by decide +kernel⟩
def spWD (K : PySem.W.Frag) : Sp := fun vs H Q _ => ∃ v n u, vs = [v] ∧ LinesAt K H v n u ∧ ∀ H', Same H H' → Q (oV (Geo.fault4 n u)) H'
theorem scWD : FnScope ["lines", "i", "line"] ["lines"] (defScope st_wrong_direction) := ⟨rfl, rfl, rfl, by decide +kernel, rfl, by decide +kernel, by decide +kernel⟩
structure Small (n : Nat) (u : Nat → Geo.V) : Prop where
  bt : ∀ i, Bt (u i)
  per : ∀ i, u (i + n) = u i
  n1 : 1 ≤ n
  n64 : n ≤ 64
theorem Small.mod {n : Nat} {u : Nat → Geo.V} (h : Small n u) : ∀ i, u (i % n) = u i := by
  have key : ∀ k i, u (i + n * k) = u i := by
    intro k
    induction k with
    | zero => intro i; rfl
    | succ k ih => intro i; rw [Nat.mul_succ, ← Nat.add_assoc, h.per, ih]
  intro i
  have := key (i / n) (i % n)
  rw [Nat.mod_add_div] at this
  exact this.symm
theorem Small.modAdd {n : Nat} {u : Nat → Geo.V} (h : Small n u) (i j : Nat) : u (i % n + j) = u (i + j) := by
  rw [← h.mod, Nat.mod_add_mod, h.mod]
theorem LinesAt.get {H : Hp} {l : Addr} {xs : List L2.V} {n : Nat} {u : Nat → Geo.V} (S : Small n u) (hl : xs.length = n) (hx : ∀ i x, xs[i]? = some x → LineAt K H x (u i) (u (i + 1))) (j : Nat) :
    ∃ x, atI xs ((j : Int) % (xs.length : Int)) = some x ∧ LineAt K H x (u j) (u (j + 1)) := by
  have hj : j % n < xs.length := by rw [hl]; exact Nat.mod_lt _ S.n1
  refine ⟨xs[j % n], at_of (j := j % n) (by rw [hl]; trivial) (List.getElem?_eq_getElem hj), ?_⟩
  have := hx (j % n) _ (List.getElem?_eq_getElem hj)
  rw [S.mod, S.modAdd] at this
  exact this
def spSC (K : PySem.W.Frag) : Sp := fun vs H Q _ => ∃ v n u, vs = [v] ∧ LinesAt K H v n u ∧ Small n u ∧ ∀ H', Same H H' → Q (oV (Geo.fault5 n u)) H'
theorem scSC : FnScope ["lines", "i", "line", "following"] ["lines"] (defScope st_straight_corner) := ⟨rfl, rfl, rfl, by decide +kernel, rfl, by decide +kernel, by decide +kernel⟩
def spMF (K : PySem.W.Frag) : Sp := fun vs H Q _ => ∃ v n u i, vs = [v, .int (i : Nat)] ∧ LinesAt K H v n u ∧ Small n u ∧ i < n ∧ Q (.bl (Geo.far6 n u i)) H
theorem scMF : FnScope ["lines", "i", "a", "b", "step", "far"] ["lines", "i"] (defScope st_meets_far_line) := ⟨rfl, rfl, rfl, by decide +kernel, rfl, by decide +kernel, by decide +kernel⟩
def spCL (K : PySem.W.Frag) : Sp := fun vs H Q _ => ∃ v n u, vs = [v] ∧ LinesAt K H v n u ∧ Small n u ∧ Q (oV (Geo.fault6 n u)) H
theorem scCL : FnScope ["lines", "i"] ["lines"] (defScope st_crossed_line) := ⟨rfl, rfl, rfl, by decide +kernel, rfl, by decide +kernel, by decide +kernel⟩
end
end Pr
end
section
local macro_rules | `(tactic| trivial) => `(tactic| first | lia -abstractProof | omega)
set_option Elab.async false
set_option linter.all false
set_option maxRecDepth 100000
set_option maxHeartbeats 2000000
namespace Pr
open PySem PySem.Spec PyProof.Rows L2
section
variable {P : Program} {w : World} {K : PySem.W.Frag} {mg : Str → Option Value} {base : Heap} {f : Addr} {fd : FuncData}
def spRL (K : PySem.W.Frag) : Sp := fun vs H Q _ => ∃ v n u, vs = [v] ∧ LinesAt K H v n u ∧ Small n u ∧ ∀ H', Same H H' → Q (.bl (decide (0 < Geo.areaM n u))) H'
theorem scRL : FnScope ["lines", "a", "b"] ["lines"] (defScope st_is_room_left) := ⟨rfl, rfl, rfl, by decide +kernel, rfl, by decide +kernel, by decide +kernel⟩
theorem blkRL : blkC ["lines", "a", "b"] (defScope st_is_room_left) { kind := .function, names := [(Str.ofString ".0", .local), (Str.ofString "a", .local), (Str.ofString "b", .local)], isGenerator := false, isCoroutine := false } [("a", 1), ("b", 2)] = true := by decide +kernel
def arT (u : Nat → Geo.V) (i : Nat) : Int := (u i).1 * (u (i + 1)).2 - (u (i + 1)).1 * (u i).2
def FaultV (K : PySem.W.Frag) (H : Hp) (x : L2.V) : Option (Nat × Nat) → Prop
  | none => x = .non
  | some p => ∃ t, x = L2.V.ref t ∧ SqT K H t [.int (p.1 : Nat), .int (p.2 : Nat)]
theorem oV_some (i : Nat) : (!decide (oV (some i) = L2.V.non)) = true := by
  rw [decide_eq_false (fun h => by cases h)]; rfl
theorem oV_none : (!decide (oV none = L2.V.non)) = false := by
  rw [decide_eq_true (show oV none = L2.V.non from rfl)]; rfl
def spLF (K : PySem.W.Frag) : Sp := fun vs H Q _ => ∃ v n u, vs = [v] ∧ LinesAt K H v n u ∧ Small n u ∧ ∀ H' x, Same H H' → FaultV K H' x (Geo.linesFault n u) → Q x H'
theorem scLF : FnScope ["lines", "wall"] ["lines"] (defScope st_lines_fault) := ⟨rfl, rfl, rfl, by decide +kernel, rfl, by decide +kernel, by decide +kernel⟩
theorem bt_of {z : Int} (h1 : 0 ≤ z) (h2 : z ≤ 4095) : ib z ≤ 100000 := Nat.le_trans (intBits_le_iff.2 (Nat.lt_of_le_of_lt (show z.natAbs ≤ 4095 by trivial) (show 4095 < 2 ^ 12 by decide))) (by decide)
theorem small_of {ns : List Int} {n : Nat} (hc : Geo.cn ns = n) (h1 : 1 ≤ n) (h64 : n ≤ 64) (h : ∀ i, i < n → Geo.cornerM ns i = true) : Small n (Geo.cu ns) := by
  refine ⟨fun i => ?_, fun i => ?_, h1, h64⟩
  · have := h (i % n) (Nat.mod_lt _ h1)
    unfold Geo.cornerM at this
    simp only [Bool.and_eq_true, decide_eq_true_eq] at this
    unfold Geo.cu
    rw [hc]
    exact ⟨bt_of this.1.1 this.1.2, bt_of this.2.1.1 this.2.1.2⟩
  · unfold Geo.cu
    rw [hc, Nat.add_mod_right]
theorem len_of {ns : List Int} (h : Geo.lenM ns = true) : ns.length = 3 + 3 * Geo.cn ns ∧ 3 ≤ Geo.cn ns ∧ Geo.cn ns ≤ 64 := by
  unfold Geo.lenM at h
  simp only [Bool.and_eq_true, decide_eq_true_eq] at h
  unfold Geo.cn at *
  trivial
def spRF (K : PySem.W.Frag) : Sp := fun vs H Q _ => ∃ v ns, vs = [v] ∧ RoomAt K H v ns ∧ ∀ H' x, Same H H' → FaultV K H' x (Geo.roomFault ns) → Q x H'
theorem scRF : FnScope ["room", "wall"] ["room"] (defScope st_room_fault) := ⟨rfl, rfl, rfl, by decide +kernel, rfl, by decide +kernel, by decide +kernel⟩
end
end Pr
end
section
local macro_rules | `(tactic| trivial) => `(tactic| first | lia -abstractProof | omega)
set_option Elab.async false
set_option linter.all false
set_option maxRecDepth 100000
set_option maxHeartbeats 2000000
namespace Pr
open PySem PySem.Spec PyProof.Rows L2
section
variable {P : Program} {w : World} {K : PySem.W.Frag} {mg : Str → Option Value} {base : Heap} {f : Addr} {fd : FuncData}
theorem rd_wind {σ : L2.St} {H : Hp} {Q : Bool → Hp → Prop} {cmp : Int → Int → Bool} {ic ip id ja jb : Nat} {vc vp vd va vb : L2.V} {c p d a b : Geo.V}
    (h1 : σ[ic]? = some (some vc)) (h2 : σ[ip]? = some (some vp)) (h3 : σ[id]? = some (some vd)) (h4 : σ[ja]? = some (some va)) (h5 : σ[jb]? = some (some vb))
    (pc : PtAt K H vc c) (pp : PtAt K H vp p) (pd : PtAt K H vd d) (pa : PtAt K H va a) (pb : PtAt K H vb b) (ba : Bt a) (bb : Bt b) (bp : Bt p)
    (q : Q ((decide (c.2 ≤ p.2) && decide (p.2 < d.2)) && cmp (Geo.sd a b p) 0) H) :
    tAnd (tTest (tChain (rI0 fun i j => .bl (decide (i ≤ j))) (rI0 fun i j => .bl (decide (i < j))) (tOp (rIxT K) (tVar ic) (tC (.int 1))) (tOp (rIxT K) (tVar ip) (tC (.int 1))) (tOp (rIxT K) (tVar id) (tC (.int 1)))))
      (tTest (tOp (rI0 fun i j => .bl (cmp i j)) (tCall (spSide K) [] E0 (tCons (tVar ja) (tCons (tVar jb) (tCons (tVar ip) tNil)))) (tC (.int 0)))) σ H Q := by
  obtain ⟨xc, yc, rfl, sc, c0, c1⟩ := pc
  have pp' := pp
  obtain ⟨xp, yp, rfl, sp, p0, p1⟩ := pp'
  obtain ⟨xd, yd, rfl, sd, d0, d1⟩ := pd
  refine ⟨_, h1, _, _, _, _, rfl, rfl, sc, at1 c1, _, h2, _, _, _, _, rfl, rfl, sp, at1 p1, _, _, rfl, rfl, _, rfl, iteB (fun e1 => ?_) (fun e1 => ?_)⟩
  · refine ⟨_, h3, _, _, _, _, rfl, rfl, sd, at1 d1, _, _, rfl, rfl, _, rfl, iteB (fun e2 => ?_) (fun e2 => ?_)⟩
    · rw [e1, e2, Bool.true_and, Bool.true_and] at q
      exact ⟨_, h4, _, h5, _, h2, _, _, _, a, b, p, rfl, pa, pb, pp, ⟨ba, bb, bp⟩, _, _, rfl, rfl, _, rfl, q⟩
    · rw [e1, e2, Bool.true_and, Bool.false_and] at q
      exact q
  · rw [e1, Bool.false_and, Bool.false_and] at q
    exact ⟨_, rfl, iteF q⟩
def spWi (K : PySem.W.Frag) : Sp := fun vs H Q _ => ∃ vp vl p n u, vs = [vp, vl] ∧ PtAt K H vp p ∧ Bt p ∧ LinesAt K H vl n u ∧ Small n u ∧ Q (.bl (Geo.withinM n u p)) H
theorem scWi : FnScope ["p", "lines", "rounds", "a", "b"] ["p", "lines"] (defScope st_is_within) := ⟨rfl, rfl, rfl, by decide +kernel, rfl, by decide +kernel, by decide +kernel⟩
theorem sg_bool (a b p : Geo.V) : Geo.sg a b p = (if ((decide (a.2 ≤ p.2) && decide (p.2 < b.2)) && decide (0 < Geo.sd a b p)) = true then 1 else 0) - (if ((decide (b.2 ≤ p.2) && decide (p.2 < a.2)) && decide (Geo.sd a b p < 0)) = true then 1 else 0) := by
  unfold Geo.sg
  simp only [Bool.and_eq_true, decide_eq_true_eq, and_assoc]
def spIn (K : PySem.W.Frag) : Sp := fun vs H Q _ => ∃ vp vl p z h n u, vs = [vp, .int h, vl] ∧ PtAt K H vp p ∧ CoAt K H vp 2 z ∧ Bt p ∧ LinesAt K H vl n u ∧ Small n u ∧ Q (.bl (Geo.insideM n u h p z)) H
theorem scIn : FnScope ["p", "height", "lines"] ["p", "height", "lines"] (defScope st_is_inside) := ⟨rfl, rfl, rfl, by decide +kernel, rfl, by decide +kernel, by decide +kernel⟩
def PlacesAt (K : PySem.W.Frag) (H : Hp) (l : Addr) (n : Nat) (c : Nat → Geo.V) (z : Nat → Int) : Prop := ∃ vs, H l = some (.lst vs) ∧ vs.length = n ∧ ∀ i x, vs[i]? = some x → PtAt K H x (c i) ∧ CoAt K H x 2 (z i)
end
end Pr
end
section
local macro_rules | `(tactic| trivial) => `(tactic| first | lia -abstractProof | omega)
set_option Elab.async false
set_option linter.all false
set_option maxRecDepth 100000
set_option maxHeartbeats 2000000
namespace Pr
open PySem PySem.Spec PyProof.Rows L2
def natV (l : List Nat) : List L2.V := l.map fun (j : Nat) => L2.V.int (j : Int)
theorem natV_get {l : List Nat} {i : Nat} {j : Nat} (h : l[i]? = some j) : (natV l)[i]? = some (.int (j : Int)) := by unfold natV; rw [List.getElem?_map, h]; rfl
theorem natV_len (l : List Nat) : (natV l).length = l.length := by unfold natV; rw [List.length_map]
theorem natV_snoc (l : List Nat) (j : Nat) : natV (l ++ [j]) = natV l ++ [.int (j : Int)] := by unfold natV; rw [List.map_append]; rfl
theorem natV_flat (l : List Nat) : (natV l).all flatV = true := by
  rw [List.all_eq_true]
  intro x hx
  unfold natV at hx
  rw [List.mem_map] at hx
  obtain ⟨j, _, rfl⟩ := hx
  rfl
end Pr
end
section
local macro_rules | `(tactic| trivial) => `(tactic| first | lia -abstractProof | omega)
set_option Elab.async false
set_option linter.all false
set_option maxRecDepth 100000
set_option maxHeartbeats 2000000
namespace Pr
open PySem PySem.Spec PyProof.Rows L2
def rCatA (K : PySem.W.Frag) : R2 := fun x y H Q => ∃ a b xs ys, x = .ref a ∧ y = .ref b ∧ SqT K H a xs ∧ SqT K H b ys ∧ ys ≠ [] ∧ xs.length + ys.length ≤ sizeLine ∧
  (xs = [] → Q (.ref b) H) ∧ (xs ≠ [] → ∀ p, H p = none → Q (.ref p) (upd H p (.tup (xs ++ ys))))
theorem cat_first {prog : Program} {w : World} {A : Around} {E : Value → Shared → Prop} {s : Shared} {t b : Addr} {ws : List Value} {Q : Value → Shared → Prop} (ht : IsTup s.heap t #[]) (hb : IsTup s.heap b ws.toArray) (q : Q (.ref b) s) :
    wpAny (model prog w) A (binaryOp .Add (.ref t) (.ref b)) Q E s := by
  obtain ⟨⟨c1, e1, x1, l1⟩, g1, k1, n1, y1⟩ := id ht
  obtain ⟨⟨c2, e2, x2, l2⟩, g2, k2, n2, y2⟩ := id hb
  simp only at k1 y1 k2 y2
  subst k1 y1 k2 y2
  exact concat_meets ⟨_, g1, rfl⟩ ⟨_, g2, rfl⟩ noFill_tuple_add seq_tuple_add PySem.F.slot_tuple_add PySem.F.entry_tuple_add (PySem.F.args_tuple_add_2 _ _) (tuple_addW0 t b #[] ws.toArray n1 n2 e1 e2 l1 l2 rfl) ⟨g1, g2, q⟩
theorem op_catA {X : Cx} : OpR X (binaryOp .Add) (rCatA X.K) := by
  intro pins s σ H x y v u Q I rx ry h
  obtain ⟨a, b, xs, ys, rfl, rfl, ha, hb, hy, hz, q1, q2⟩ := h
  by_cases hx : xs = []
  · subst hx
    cases rx
    cases ry
    obtain ⟨i1, r1, p1, _⟩ := I.tuple ha
    obtain ⟨i2, r2, p2, _⟩ := I.tuple hb
    have e : i1 = [] := r1.nil_iff.mpr rfl
    subst e
    exact cat_first p1 p2 ⟨.ref b, H, I, rfl, q1 rfl⟩
  · exact op_catT pins s σ H _ _ v u Q I rx ry ⟨a, b, xs, ys, rfl, rfl, ha, hb, hx, hz, fun z => absurd z hy, fun _ => q2 hx⟩
section
variable {prog : Program} {w : World} {A : Around} {s : Shared} {it l : Addr} {xs : Array Value}
end
theorem boot_listT : bootBuiltins "list" = some (.type "list") := by decide +kernel
end Pr
end
section
local macro_rules | `(tactic| trivial) => `(tactic| first | lia -abstractProof | omega)
set_option Elab.async false
set_option linter.all false
set_option maxRecDepth 100000
set_option maxHeartbeats 2000000
namespace Pr
open PySem PySem.Spec PyProof.Rows L2
section
variable {P : Program} {w : World} {K : PySem.W.Frag} {mg : Str → Option Value} {base : Heap} {f : Addr} {fd : FuncData}
def spCr (K : PySem.W.Frag) : Sp := fun vs H Q _ => ∃ vp vq vl p q n u, vs = [vp, vq, vl] ∧ PtAt K H vp p ∧ PtAt K H vq q ∧ Bt p ∧ Bt q ∧ LinesAt K H vl n u ∧ Small n u ∧ Q (.bl (Geo.clearM n u p q)) H
theorem scCr : FnScope ["p", "q", "lines", "a", "b"] ["p", "q", "lines"] (defScope st_is_clear) := ⟨rfl, rfl, rfl, by decide +kernel, rfl, by decide +kernel, by decide +kernel⟩
end
end Pr
end
section
local macro_rules | `(tactic| trivial) => `(tactic| first | lia -abstractProof | omega)
set_option Elab.async false
set_option linter.all false
set_option maxRecDepth 100000
set_option maxHeartbeats 2000000
namespace Pr
open PySem PySem.Spec PyProof.Rows L2
section
variable {P : Program} {w : World} {K : PySem.W.Frag} {mg : Str → Option Value} {base : Heap} {f : Addr} {fd : FuncData}
structure TxtB (mg : Str → Option Value) : Prop where
  numbers : ∃ t, mg "BOOK_NUMBERS" = some (.int 36 t)
  whole : ∃ t, mg "WHOLE_PART" = some (.int 32768 t)
def bookM (bs : List Int) : Option Nat := if bs.length = 36 then (List.range bs.length).find? (fun i => decide (32768 < bs.getD i 0)) else some bs.length
def spBf (K : PySem.W.Frag) : Sp := fun vs H Q _ => ∃ v bs, vs = [v] ∧ RoomAt K H v bs ∧ ∀ H', Same H H' → Q (oV (bookM bs)) H'
theorem scBf : FnScope ["book", "place", "part"] ["book"] (defScope st_book_fault) := ⟨rfl, rfl, rfl, by decide +kernel, rfl, by decide +kernel, by decide +kernel⟩
def RefR (H : Hp) (x : L2.V) : Option (List Int) → Prop
  | none => x = .non
  | some r => ∃ a, x = L2.V.ref a ∧ H a = some (.lst (r.map L2.V.int))
def BkAt (K : PySem.W.Frag) (H : Hp) (v : L2.V) : Option (List Int) → Prop
  | none => v = .non
  | some bs => RoomAt K H v bs
theorem small_room {ns : List Int} (ef : Geo.roomFault ns = none) : Small (Geo.cn ns) (Geo.cu ns) ∧ ns.length = 3 + 3 * Geo.cn ns ∧ 3 ≤ Geo.cn ns ∧ Geo.cn ns ≤ 64 ∧ (∀ i, i < Geo.cn ns → Geo.cornerM ns i = true) ∧ Geo.headM ns = true := by
  have hlen : Geo.lenM ns = true := by
    unfold Geo.roomFault at ef
    by_cases c : Geo.lenM ns = false
    · rw [if_pos c] at ef; cases ef
    · simpa using c
  obtain ⟨h1, h3, h64⟩ := len_of hlen
  unfold Geo.roomFault at ef
  rw [if_neg (by rw [hlen]; simp)] at ef
  by_cases c : Geo.headM ns = false
  · rw [if_pos c] at ef; cases ef
  · rw [if_neg c] at ef
    cases e3 : (List.range (Geo.cn ns)).find? fun i => !Geo.cornerM ns i with
    | some i => rw [e3] at ef; cases ef
    | none =>
      have hc : ∀ i, i < Geo.cn ns → Geo.cornerM ns i = true := fun i hi => by have := Geo.find_none e3 i hi; simpa using this
      exact ⟨small_of rfl (by trivial) h64 hc, h1, h3, h64, hc, by simpa using c⟩
def SAt (K : PySem.W.Frag) (H : Hp) (v : L2.V) : Option (Geo.V × Int) → Prop
  | none => v = .non
  | some q => PtAt K H v q.1 ∧ CoAt K H v 2 q.2 ∧ Bt q.1
theorem SAt.mono {K : PySem.W.Frag} {H H' : Hp} {v : L2.V} {o : Option (Geo.V × Int)} (e : Same H H') (h : SAt K H v o) : SAt K H' v o := by
  cases o with
  | none => exact h
  | some q => exact ⟨h.1.mono e, h.2.1.mono e, h.2.2⟩
def insO (ns : List Int) (o : Option (Geo.V × Int)) : Bool := match o with
  | none => true
  | some q => Geo.insideM (Geo.cn ns) (Geo.cu ns) (ns.getD 0 0) q.1 q.2
def refO (o : Option (Geo.V × Int)) (right : Bool) (ns : List Int) (bk : Option (List Int)) : Option (List Int) :=
  match Geo.roomFault ns with
  | some g => some [-5, (g.1 : Int), (g.2 : Int)]
  | none => match bk.bind bookM with
    | some i => some [-6, (i : Int)]
    | none => if right = false then some [-1] else if insO ns o = false then some [-3] else none
def spRe (K : PySem.W.Frag) : Sp := fun vs H Q _ => ∃ v1 v3 v4 o right ns bk, vs = [v1, .bl right, v3, v4] ∧ SAt K H v1 o ∧ RoomAt K H v3 ns ∧ BkAt K H v4 bk ∧ ∀ H' x, Same H H' → RefR H' x (refO o right ns bk) → Q x H'
theorem scRe : FnScope ["s", "is_right", "room", "book", "fault", "wrong"] ["s", "is_right", "room", "book"] (defScope st_refusal) := ⟨rfl, rfl, rfl, by decide +kernel, rfl, by decide +kernel, by decide +kernel⟩
end
end Pr
end
section
local macro_rules | `(tactic| trivial) => `(tactic| first | lia -abstractProof | omega)
set_option Elab.async false
set_option linter.all false
set_option maxRecDepth 100000
set_option maxHeartbeats 2000000
namespace Pr
open PySem PySem.Spec PyProof.Rows L2
theorem filt_succ (p : Nat → Bool) (i : Nat) : ((List.range (i + 1)).filter p).map (fun (i : Nat) => (i : Int)) = ((List.range i).filter p).map (fun (i : Nat) => (i : Int)) ++ (if p i = true then [(i : Int)] else []) := by
  rw [List.range_succ, List.filter_append, List.map_append]
  congr 1
  by_cases h : p i = true
  · rw [if_pos h, List.filter_cons, if_pos h]; rfl
  · rw [if_neg h, List.filter_cons, if_neg h]; rfl
theorem filt_len (p : Nat → Bool) (i : Nat) : ((((List.range i).filter p).map (fun (i : Nat) => (i : Int))).map L2.V.int).length ≤ i := by
  rw [List.length_map, List.length_map]
  have := List.length_filter_le p (List.range i)
  rw [List.length_range] at this
  trivial
def clearP (ns : List Int) (p : Geo.V) (c : Nat → Geo.V) (z : Nat → Int) (k : Nat) : Bool := Geo.insideM (Geo.cn ns) (Geo.cu ns) (ns.getD 0 0) (c k) (z k) && Geo.clearM (Geo.cn ns) (Geo.cu ns) p (c k)
def clearL (ns : List Int) (p : Geo.V) (z0 : Int) (N : Nat) (c : Nat → Geo.V) (z : Nat → Int) : List Int :=
  if Geo.insideM (Geo.cn ns) (Geo.cu ns) (ns.getD 0 0) p z0 = true then ((List.range N).filter (clearP ns p c z)).map (fun (i : Nat) => (i : Int)) else []
section
variable {P : Program} {w : World} {K : PySem.W.Frag} {mg : Str → Option Value} {base : Heap} {f : Addr} {fd : FuncData}
def spCf (K : PySem.W.Frag) : Sp := fun vs H Q _ => ∃ v1 lp v3 p z0 N c z ns, vs = [v1, .ref lp, v3] ∧ PtAt K H v1 p ∧ CoAt K H v1 2 z0 ∧ Bt p ∧ PlacesAt K H lp N c z ∧ N ≤ 256 ∧ (∀ i, i < N → Bt (c i)) ∧ RoomAt K H v3 ns ∧ Geo.roomFault ns = none ∧
  ∀ H' l, Same H H' → H l = none → H' l = some (.lst ((clearL ns p z0 N c z).map L2.V.int)) → Q (.ref l) H'
theorem scCf : FnScope ["s", "places", "room", "lines", "numbers", "number", "place"] ["s", "places", "room"] (defScope st_clear_from) := ⟨rfl, rfl, rfl, by decide +kernel, rfl, by decide +kernel, by decide +kernel⟩
end
end Pr
end
section
local macro_rules | `(tactic| trivial) => `(tactic| first | lia -abstractProof | omega)
set_option Elab.async false
set_option linter.all false
set_option maxRecDepth 100000
set_option maxHeartbeats 2000000
namespace Pr
open PySem PySem.Spec PyProof.Rows L2
theorem and2 {tb : TE} {σ : L2.St} {H : Hp} {Q : VK} {a b : Bool} (hb : ∀ R : VK, R (.bl b) H → tb σ H R) (k : Q (.bl (a && b)) H) : if a = true then tb σ H Q else Q (.bl false) H := by
  cases a with
  | false => rw [if_neg Bool.false_ne_true]; exact k
  | true => rw [if_pos rfl]; exact hb _ k
structure TxtR (mg : Str → Option Value) : Prop where
  places : ∃ t, mg "MOST_PLACES" = some (.int 8 t)
theorem row_of {ps : List Int} {a b : Nat} (h : Geo.rowM ps a b = true) : ps.length = 3 * (ps.length / 3) ∧ a ≤ ps.length / 3 ∧ ps.length / 3 ≤ b := by
  unfold Geo.rowM at h
  simp only [Bool.and_eq_true, decide_eq_true_eq] at h
  trivial
section
variable {P : Program} {w : World} {K : PySem.W.Frag} {mg : Str → Option Value} {base : Heap} {f : Addr} {fd : FuncData}
def spPr (K : PySem.W.Frag) : Sp := fun vs H Q _ => ∃ (v : L2.V) (ps : List Int) (a b : Nat), vs = [v, .int (a : Nat), .int (b : Nat)] ∧ RoomAt K H v ps ∧ Q (.bl (Geo.rowM ps a b)) H
theorem scPr : FnScope ["row", "least", "largest"] ["row", "least", "largest"] (defScope st_are_points_right) := ⟨rfl, rfl, rfl, by decide +kernel, rfl, by decide +kernel, by decide +kernel⟩
theorem rg0 {n : Nat} (h : n ≤ 1000) : RgC 0 ((3 * n : Nat) : Int) 3 n := by
  have e : Builtin.Range.rangeSize 0 ((3 * n : Nat) : Int) 3 = n := by
    unfold Builtin.Range.rangeSize
    simp only [show (3 : Int) > 0 by decide, if_true]
    split <;> trivial
  refine ⟨by decide, by decide, ?_, e⟩
  unfold Builtin.Range.small
  rw [e]
  have fit : ∀ z : Int, 0 ≤ z → z ≤ 100000 → Builtin.Range.rangeFitsLong z = true := by
    intro z h1 h2
    unfold Builtin.Range.rangeFitsLong
    rw [Bool.and_eq_true, decide_eq_true_eq, decide_eq_true_eq]
    trivial
  rw [fit 0 (by decide) (by decide), fit _ (by trivial) (by trivial), fit n (by trivial) (by trivial), if_pos (by decide), fit _ (by trivial) (by trivial)]
  simp
  exact .inr (fit _ (by trivial) (by trivial))
def ptX (ps : List Int) (i : Nat) : Geo.V := ((Geo.ptM ps i).x, (Geo.ptM ps i).y)
def ptZ (ps : List Int) (i : Nat) : Int := (Geo.ptM ps i).z
def spPs (K : PySem.W.Frag) : Sp := fun vs H Q _ => ∃ (v : L2.V) (ps : List Int) (n : Nat), vs = [v] ∧ RoomAt K H v ps ∧ ps.length = 3 * n ∧ n ≤ 100 ∧
  ∀ H' l, Same H H' → H l = none → PlacesAt K H' l n (ptX ps) (ptZ ps) → Q (.ref l) H'
theorem scPs : FnScope ["row", "k"] ["row"] (defScope st_points_of) := ⟨rfl, rfl, rfl, by decide +kernel, rfl, by decide +kernel, by decide +kernel⟩
theorem blkPs : blkC ["row", "k"] (defScope st_points_of) { kind := .function, names := [(Str.ofString ".0", .local), (Str.ofString "k", .local), (Str.ofString "row", .free)], isGenerator := false, isCoroutine := false } [("k", 1)] = true := by decide +kernel
end
end Pr
end
section
local macro_rules | `(tactic| trivial) => `(tactic| first | lia -abstractProof | omega)
set_option Elab.async false
set_option linter.all false
set_option maxRecDepth 100000
set_option maxHeartbeats 2000000
namespace Pr
open PySem PySem.Spec PyProof.Rows L2
structure TxtC (mg : Str → Option Value) : Prop where
  list : mg "list" = none
  any : mg "any" = none
def tLRg (ta : TA) : TE := fun σ H Q => ta σ H fun vs H1 => ∃ n : Nat, vs = [.int (n : Int)] ∧ n ≤ 1000 ∧ ∀ l, H1 l = none → Q (.ref l) (upd H1 l (.lst (natV (List.range n))))
theorem vals_range {acc : Array Value} {n : Nat} (h : ItemsOf (fun i v => ∃ t, v = Value.int (0 + (i : Int) * 1) t) acc n) : Vals (natV (List.range n)) acc.toList := by
  have key : ∀ m, m ≤ n → Vals (natV (List.range m)) (acc.toList.take m) := by
    intro m
    induction m with
    | zero => intro _; exact .nil
    | succ m ih =>
      intro hm
      have hlt : m < acc.toList.length := by rw [Array.length_toList, h.1]; trivial
      have e : acc.toList.take (m + 1) = acc.toList.take m ++ [acc.toList[m]] := by rw [List.take_succ, List.getElem?_eq_getElem hlt]; rfl
      rw [List.range_succ, natV_snoc, e]
      refine (ih (by trivial)).append (.cons ?_ .nil)
      obtain ⟨t, ht⟩ := h.2 m acc.toList[m] (by rw [← Array.getElem?_toList, List.getElem?_eq_getElem hlt])
      refine ⟨t, ?_⟩
      rw [ht]
      congr 1
      trivial
  have := key n (Nat.le_refl n)
  rwa [List.take_of_length_le (by rw [Array.length_toList, h.1]; trivial)] at this
theorem pe_listrange {X : Cx} {e : Expr} {ta : TA} {p pos p2 pos2 : Pos} (hc : X.calm = true) (hgl : Gl X "list") (hml : X.mg "list" = none) (hgr : Gl X "range") (hmr : X.mg "range" = none) (ha : PA X [e] ta)
    (hs : starEach [e] X.env = [(false, eval e X.env)] := by rfl) (hs2 : starEach [.Call (.Name "range" p2) [e] [] pos2] X.env = [(false, eval (.Call (.Name "range" p2) [e] [] pos2) X.env)] := by rfl) :
    PE X (.Call (.Name "list" p) [.Call (.Name "range" p2) [e] [] pos2] [] pos) (tLRg ta) := by
  intro pins s σ H Q I h
  refine wpAny_Call_Name_kw (ld_blt I hgl hml boot_listT (PyProof.Rows.callWith_type1 ?_ hs2 rfl))
  rw [hs2]
  show wpAny _ _ (spliced ((false, eval (.Call (.Name "range" p2) [e] [] pos2) X.env) :: backTo pos [])) _ _ s
  refine Calls.spliced_cons ?_
  refine wpAny_Call_Name_kw (ld_blt I hgr hmr boot_range (PyProof.Rows.callWith_type1 (thn (ha pos2 pins s σ H _ I h) fun us s1 ⟨vs, H1, I1, r1, q1⟩ => ?_) hs rfl))
  obtain ⟨n, ev, hn, q⟩ := q1
  subst ev
  obtain ⟨u, rfl, ru⟩ := vals1 r1
  obtain ⟨t, rfl⟩ := ru
  refine call_range_1 (Calls.spliced_nil ?_)
  have hsz : (s1.heap.push { cls := .type "range", data := .fields #[.int 0 s1.toks, .int (n : Int) t, .int 1 (s1.toks + 1)] }).objs.size = s1.heap.objs.size + 1 := Heap.size_push ..
  have hn2 : Builtin.Range.rangeSize 0 (n : Int) 1 = (n : Int) := by rw [rangeSize_one]; split <;> trivial
  refine call_list_range (n := n) (I1.ok.hd hc) (IsRange.new ..) (small_one (by trivial) (by trivial) (by trivial) (by trivial)) hn2 (Nat.le_trans hn (by decide)) fun h' tk acc c kp e' hacc => ?_
  rw [hsz] at e'
  show EP X pins σ Q (.ref (s1.heap.push { cls := .type "range", data := .fields #[.int 0 s1.toks, .int (n : Int) t, .int 1 (s1.toks + 1)] }).objs.size) _
  rw [hsz]
  refine ⟨.ref (s1.heap.objs.size + 1), _, I1.laid (t' := tk) (a := s1.heap.objs.size + 1) (o := .lst (natV (List.range n))) (fun b o eo => kp b o (Heap.get?_push_of_some _ eo)) (Nat.le_succ _) ?_, rfl, q _ (I1.hok.fresh (Nat.le_succ _))⟩
  refine ⟨?_, acc.toList, c, vals_range hacc, ?_⟩
  · rw [natV_len, List.length_range]; exact Nat.le_trans hn (by decide)
  · rw [Array.toArray_toList]; exact e'
section
variable {K : PySem.W.Frag}
def RnAt (K : PySem.W.Frag) (H : Hp) (v : L2.V) (row : List Nat) : Prop := ∃ t, v = L2.V.ref t ∧ SqT K H t (natV row)
def RnsAt (K : PySem.W.Frag) (H : Hp) (xs : List L2.V) (rows : List (List Nat)) : Prop := xs.length = rows.length ∧ ∀ (i : Nat) (x : L2.V) (row : List Nat), xs[i]? = some x → rows[i]? = some row → RnAt K H x row
theorem RnAt.mono {H H' : Hp} {x : L2.V} {row : List Nat} (e : Same H H') (q : RnAt K H x row) : RnAt K H' x row := by
  obtain ⟨t, e1, q⟩ := q; exact ⟨t, e1, Same.tup e q⟩
theorem RnAt.set {H : Hp} {D : Addr} {acc acc' : List L2.V} {x : L2.V} {row : List Nat} (hD : H D = some (.lst acc)) (q : RnAt K H x row) : RnAt K (L2.upd H D (.lst acc')) x row := by
  obtain ⟨t, e1, q⟩ := q; exact ⟨t, e1, SqT.set hD q⟩
theorem RnsAt.mono {H H' : Hp} {xs : List L2.V} {rows : List (List Nat)} (e : Same H H') (q : RnsAt K H xs rows) : RnsAt K H' xs rows := ⟨q.1, fun i x row h1 h2 => (q.2 i x row h1 h2).mono e⟩
theorem RnsAt.set {H : Hp} {D : Addr} {acc acc' : List L2.V} {xs : List L2.V} {rows : List (List Nat)} (hD : H D = some (.lst acc)) (q : RnsAt K H xs rows) : RnsAt K (L2.upd H D (.lst acc')) xs rows := ⟨q.1, fun i x row h1 h2 => (q.2 i x row h1 h2).set hD⟩
theorem RnsAt.append {H : Hp} {xs ys : List L2.V} {rows rows' : List (List Nat)} (a : RnsAt K H xs rows) (b : RnsAt K H ys rows') : RnsAt K H (xs ++ ys) (rows ++ rows') := by
  refine ⟨by rw [List.length_append, List.length_append, a.1, b.1], fun i x row h1 h2 => ?_⟩
  by_cases hi : i < xs.length
  · rw [List.getElem?_append_left hi] at h1
    rw [List.getElem?_append_left (by rw [← a.1]; exact hi)] at h2
    exact a.2 i x row h1 h2
  · rw [List.getElem?_append_right (by trivial)] at h1
    rw [List.getElem?_append_right (by rw [← a.1]; trivial), ← a.1] at h2
    exact b.2 _ x row h1 h2
theorem RnsAt.one {H : Hp} {x : L2.V} {row : List Nat} (a : RnAt K H x row) : RnsAt K H [x] [row] := by
  refine ⟨rfl, fun i x' row' h1 h2 => ?_⟩
  match i, h1, h2 with
  | 0, h1, h2 => cases h1; cases h2; exact a
  | i + 1, h1, h2 => simp at h1
theorem RnsAt.nil {H : Hp} : RnsAt K H [] [] := ⟨rfl, fun i x row h1 h2 => by simp at h1⟩
theorem RnsAt.get {H : Hp} {xs : List L2.V} {rows : List (List Nat)} (a : RnsAt K H xs rows) {i : Nat} {x : L2.V} (hx : xs[i]? = some x) : ∃ row, rows[i]? = some row ∧ RnAt K H x row := by
  have hi : i < rows.length := by rw [← a.1]; exact (List.getElem?_eq_some_iff.1 hx).1
  exact ⟨_, List.getElem?_eq_getElem hi, a.2 i x _ hx (List.getElem?_eq_getElem hi)⟩
theorem cat_rn {H : Hp} {vr : L2.V} {row : List Nat} {j : Nat} {p : Addr} {Q : VK} (hr : RnAt K H vr row) (hp : SqT K H p [.int (j : Int)]) (hl : row.length ≤ 10) (k : ∀ v H2, Same H H2 → RnAt K H2 v (row ++ [j]) → Q v H2) : rCatA K vr (.ref p) H Q := by
  obtain ⟨t, rfl, st⟩ := hr
  have el := natV_len row
  refine ⟨t, p, _, _, rfl, rfl, st, hp, by simp, ?_, fun z => ?_, fun z q hq => ?_⟩
  · rw [el]; exact Nat.le_trans (show row.length + 1 ≤ 11 by trivial) (by decide)
  · have : row = [] := by
      cases row with
      | nil => rfl
      | cons a l => simp [natV] at z
    subst this
    exact k _ _ (Same.refl H) ⟨p, rfl, hp⟩
  · refine k _ _ (Same.upd (Same.refl H) hq) ⟨q, rfl, SqT.of ?_⟩
    rw [upd_same, natV_snoc]
end
theorem sets_len : ∀ (k : Nat) (l : List Nat), (Eh.sets k l).length ≤ 2 ^ l.length
  | 0, l => by
    have : Eh.sets 0 l = [[]] := by cases l <;> rfl
    rw [this]
    exact Nat.pow_pos (by trivial)
  | k + 1, [] => Nat.zero_le _
  | k + 1, a :: l => by
    rw [Eh.sets, List.length_append, List.length_map, List.length_cons, Nat.pow_succ]
    have h1 := sets_len k l
    have h2 := sets_len (k + 1) l
    trivial
theorem sets_row : ∀ (k : Nat) (l s : List Nat), s ∈ Eh.sets k l → s.length = k
  | 0, l, s, h => by
    have : Eh.sets 0 l = [[]] := by cases l <;> rfl
    rw [this, List.mem_singleton] at h
    rw [h]; rfl
  | k + 1, [], s, h => by rw [Eh.sets] at h; cases h
  | k + 1, a :: l, s, h => by
    rw [Eh.sets, List.mem_append] at h
    cases h with
    | inl h =>
      rw [List.mem_map] at h
      obtain ⟨t, ht, rfl⟩ := h
      rw [List.length_cons, sets_row k l t ht]
    | inr h => exact sets_row (k + 1) l s h
theorem rise_len {n k : Nat} (hn : n ≤ 8) : (Geo.riseM n k).length ≤ 256 := by
  rw [Geo.riseM_eq]
  refine Nat.le_trans (sets_len _ _) ?_
  rw [List.length_range]
  exact Nat.pow_le_pow_right (by trivial) hn
theorem rise_row {n k : Nat} {s : List Nat} (h : s ∈ Geo.riseM n k) : s.length = k := by
  rw [Geo.riseM_eq] at h
  exact sets_row _ _ _ h
theorem flat_lenC {α β : Type} {f : α → List β} {c : Nat} : ∀ (l : List α), (∀ x ∈ l, (f x).length ≤ c) → (l.flatMap f).length ≤ l.length * c
  | [], _ => by simp
  | x :: l, h => by
    have ih := flat_lenC l (fun y hy => h y (List.mem_cons_of_mem _ hy))
    have h1 := h x List.mem_cons_self
    rw [List.flatMap_cons, List.length_append, List.length_cons, Nat.add_mul]
    trivial
theorem take_flatC {α β : Type} {f : α → List β} {l : List α} {a : Nat} {x : α} (hx : l[a]? = some x) : (l.take (a + 1)).flatMap f = (l.take a).flatMap f ++ f x := by
  rw [List.take_succ, hx, List.flatMap_append]
  simp
theorem ext_len {n : Nat} (s : List Nat) : (Geo.extM n 0 s).length ≤ n := by
  unfold Geo.extM
  rw [List.length_map, List.length_range']
  trivial
theorem start_last {row : List Nat} {m : Nat} (h : row.length = m + 1) : ∃ x : Nat, row[m]? = some x ∧ Geo.startM 0 row = x + 1 := by
  have hm : m < row.length := by trivial
  refine ⟨row[m], List.getElem?_eq_getElem hm, ?_⟩
  unfold Geo.startM
  rw [List.getLast?_eq_getElem?, h, Nat.add_sub_cancel, List.getElem?_eq_getElem hm]
theorem start_le {n k : Nat} {row : List Nat} (h : row ∈ Geo.riseM n k) : Geo.startM 0 row ≤ n := by
  rw [Geo.riseM_eq] at h
  have hm := Geo.sets_mem _ _ _ h
  unfold Geo.startM
  cases e : row.getLast? with
  | none => exact Nat.zero_le _
  | some x => exact List.mem_range.1 (hm x (List.mem_of_getLast? e))
theorem atl {xs : List L2.V} {v : L2.V} {n : Nat} (hl : xs.length = n + 1) (h : xs[n]? = some v) : atI xs (-1) = some v := by
  unfold atI ixN
  rw [hl, if_neg (by trivial), if_pos (by trivial)]
  have : (-1 + ((n + 1 : Nat) : Int)).toNat = n := by trivial
  rw [this]
  exact h
theorem ifx {tA : TT} {ta tb : TE} {σ : L2.St} {H : Hp} {Q : VK} {v : L2.V} (h : ∀ Q' : VK, Q' v H → tIf tA ta tb σ H Q') (q : Q v H) : tIf tA ta tb σ H Q := h Q q
theorem opin {X : Cx} {K : PySem.W.Frag} (h : X.K = K) : OpR X (compareOp .In) (rIn K false) := by subst h; exact op_in_seq
section
variable {P : Program} {w : World} {K : PySem.W.Frag} {mg : Str → Option Value} {base : Heap} {f : Addr} {fd : FuncData}
def spRr (K : PySem.W.Frag) : Sp := fun vs H Q _ => ∃ n : Nat, vs = [.int (n : Nat)] ∧ n ≤ 8 ∧ ∀ H' l xs, Same H H' → H l = none → H' l = some (.lst xs) → RnsAt K H' xs (Geo.risM n) → Q (.ref l) H'
theorem scRr : FnScope ["count", "newest", "rows", "length", "longer", "row", "start", "number"] ["count"] (defScope st_rising_rows) := ⟨rfl, rfl, rfl, by decide +kernel, rfl, by decide +kernel, by decide +kernel⟩
def CovAt (K : PySem.W.Frag) (H : Hp) (l : Addr) (np ne : Nat) (see : Nat → Nat → Bool) : Prop := ∃ vs, H l = some (.lst vs) ∧ vs.length = np ∧ ∀ (i : Nat) x, vs[i]? = some x → ∃ a, x = L2.V.ref a ∧ H a = some (.lst (natV ((List.range ne).filter (see i))))
theorem CovAt.mono {H H' : Hp} {l : Addr} {np ne : Nat} {see : Nat → Nat → Bool} (e : Same H H') (q : CovAt K H l np ne see) : CovAt K H' l np ne see := by
  obtain ⟨vs, h1, h2, h3⟩ := q
  refine ⟨vs, e _ _ h1, h2, fun i x hx => ?_⟩
  obtain ⟨a, ea, ha⟩ := h3 i x hx
  exact ⟨a, ea, e _ _ ha⟩
theorem in_see {p : Nat → Bool} {i ne : Nat} (hi : i < ne) : inV (.int (0 + (i : Int))) (natV ((List.range ne).filter p)) = p i := by
  apply Geo.bool_ext
  unfold inV natV
  rw [List.any_map, List.any_eq_true]
  constructor
  · rintro ⟨j, hj, e⟩
    rw [List.mem_filter] at hj
    have e' : ((j : Int) == 0 + (i : Int)) = true := e
    rw [beq_iff_eq] at e'
    have : j = i := by trivial
    subst this
    exact hj.2
  · intro h
    refine ⟨i, by rw [List.mem_filter, List.mem_range]; exact ⟨hi, h⟩, ?_⟩
    show ((i : Int) == 0 + (i : Int)) = true
    rw [beq_iff_eq]
    trivial
def spFm (K : PySem.W.Frag) : Sp := fun vs H Q _ => ∃ tr lc s np ne see, vs = [.ref tr, .ref lc, .int ((ne : Nat) : Int)] ∧ (SqL K H tr (natV s) ∨ SqT K H tr (natV s)) ∧ (∀ i ∈ s, i < np) ∧ s.length ≤ 100 ∧ CovAt K H lc np ne see ∧ ne ≤ 100 ∧ ∀ H', Same H H' → Q (oV (Geo.missM see ne s)) H'
theorem scFm : FnScope ["row", "covered", "count", "ear", "place"] ["row", "covered", "count"] (defScope st_first_missed) := ⟨rfl, rfl, rfl, by decide +kernel, rfl, by decide +kernel, by decide +kernel⟩
theorem blkFm : blkC ["row", "covered", "count", "ear", "place"] (defScope st_first_missed) { kind := .function, names := [(Str.ofString ".0", .local), (Str.ofString "place", .local), (Str.ofString "covered", .free), (Str.ofString "ear", .free)], isGenerator := false, isCoroutine := false } [("place", 4)] = true := by decide +kernel
theorem find_list {α : Type} {p : α → Bool} {l : List α} {i : Nat} {x : α} (hx : l[i]? = some x) (hp : p x = true) (hb : ∀ (j : Nat) y, j < i → l[j]? = some y → p y = false) : l.find? p = some x := by
  obtain ⟨hi, he⟩ := List.getElem?_eq_some_iff.1 hx
  rw [List.find?_eq_some_iff_getElem]
  refine ⟨hp, i, hi, he, fun j hj => ?_⟩
  rw [hb j _ hj (List.getElem?_eq_getElem (by trivial))]
  rfl
theorem find_listN {α : Type} {p : α → Bool} {l : List α} (hb : ∀ (j : Nat) y, j < l.length → l[j]? = some y → p y = false) : l.find? p = none := by
  rw [List.find?_eq_none]
  intro x hx
  obtain ⟨j, hj, e⟩ := List.getElem_of_mem hx
  rw [hb j x hj (by rw [List.getElem?_eq_getElem hj, e])]
  simp
def FwR (H : Hp) (x : L2.V) : Option (List Nat) → Prop
  | none => x = .non
  | some s => ∃ a, x = L2.V.ref a ∧ H a = some (.lst (natV s))
def spFe (K : PySem.W.Frag) : Sp := fun vs H Q _ => ∃ lc np ne see, vs = [.ref lc, .int ((ne : Nat) : Int)] ∧ CovAt K H lc np ne see ∧ np ≤ 8 ∧ ne ≤ 100 ∧ ∀ H' x, Same H H' → FwR H' x (Geo.fewM see np ne) → Q x H'
theorem scFe : FnScope ["covered", "count", "row"] ["covered", "count"] (defScope st_fewest) := ⟨rfl, rfl, rfl, by decide +kernel, rfl, by decide +kernel, by decide +kernel⟩
end
end Pr
end
section
local macro_rules | `(tactic| trivial) => `(tactic| first | lia -abstractProof | omega)
set_option Elab.async false
set_option linter.all false
set_option maxRecDepth 100000
set_option maxHeartbeats 2000000
namespace Pr
open PySem PySem.Spec PyProof.Rows L2
structure RowOk (ps : List Int) : Prop where
  len : ps.length ≤ 60
  bits : ∀ z ∈ ps, ib z ≤ 150
theorem RowOk.getD {ps : List Int} (h : RowOk ps) (i : Nat) : ib (ps.getD i 0) ≤ 150 := by
  rw [List.getD_eq_getElem?_getD]
  by_cases hi : i < ps.length
  · rw [List.getElem?_eq_getElem hi]; exact h.bits _ (List.getElem_mem hi)
  · rw [List.getElem?_eq_none (by trivial)]; decide
def spCv (K : PySem.W.Frag) : Sp := fun vs H Q _ => ∃ (v vp ve : L2.V) (ns ps es : List Int), vs = [v, vp, ve] ∧ RoomAt K H v ns ∧ RoomAt K H vp ps ∧ RoomAt K H ve es ∧ RowOk ps ∧ RowOk es ∧
  ∀ H' l, H' l = some (.lst ((Geo.coverM ns ps es).map L2.V.int)) → Q (.ref l) H'
end Pr
end
section
local macro_rules | `(tactic| trivial) => `(tactic| first | lia -abstractProof | omega)
set_option Elab.async false
set_option linter.all false
set_option maxRecDepth 100000
set_option maxHeartbeats 2000000
namespace Pr
open PySem PySem.Spec PyProof.Rows L2
structure TxtE (mg : Str → Option Value) : Prop where
  ears : ∃ t, mg "MOST_EARS_TO_COVER" = some (.int 16 t)
theorem clearL_see (ns ps es : List Int) (i ne : Nat) : (clearL ns (ptX ps i) (ptZ ps i) ne (ptX es) (ptZ es)).map L2.V.int = natV ((List.range ne).filter fun j => Geo.seesM ns (Geo.ptM ps i) (Geo.ptM es j)) := by
  unfold clearL
  by_cases h : Geo.insideM (Geo.cn ns) (Geo.cu ns) (ns.getD 0 0) (ptX ps i) (ptZ ps i) = true
  · rw [if_pos h]
    have : (List.range ne).filter (fun j => Geo.seesM ns (Geo.ptM ps i) (Geo.ptM es j)) = (List.range ne).filter (clearP ns (ptX ps i) (ptX es) (ptZ es)) := by
      refine List.filter_congr fun j _ => ?_
      unfold Geo.seesM clearP
      have h' : Geo.insideM (Geo.cn ns) (Geo.cu ns) (ns.getD 0 0) ((Geo.ptM ps i).x, (Geo.ptM ps i).y) (Geo.ptM ps i).z = true := h
      rw [h', Bool.true_and]
      rfl
    rw [this, List.map_map]
    rfl
  · rw [if_neg h]
    have : (List.range ne).filter (fun j => Geo.seesM ns (Geo.ptM ps i) (Geo.ptM es j)) = [] := by
      rw [List.filter_eq_nil_iff]
      intro j _
      unfold Geo.seesM
      have h' : Geo.insideM (Geo.cn ns) (Geo.cu ns) (ns.getD 0 0) ((Geo.ptM ps i).x, (Geo.ptM ps i).y) (Geo.ptM ps i).z = false := Bool.eq_false_iff.2 h
      rw [h']
      simp
    rw [this]
    rfl
theorem row_bt {ps : List Int} (h : RowOk ps) (i : Nat) : Bt (ptX ps i) := ⟨Nat.le_trans (h.getD (3 * i)) (by decide), Nat.le_trans (h.getD (3 * i + 1)) (by decide)⟩
theorem cover_ref (ns ps es : List Int) : Geo.coverM ns ps es =
    match refO none (Geo.rowM ps 0 8 && Geo.rowM es 1 16) ns none with
    | some r => r
    | none => match Geo.fewM (fun i j => Geo.seesM ns (Geo.ptM ps i) (Geo.ptM es j)) (ps.length / 3) (es.length / 3) with
      | some s => 0 :: s.map fun (i : Nat) => (i : Int)
      | none => [-2, (((Geo.missM (fun i j => Geo.seesM ns (Geo.ptM ps i) (Geo.ptM es j)) (es.length / 3) (List.range (ps.length / 3))).getD 0 : Nat) : Int)] := by
  unfold refO
  cases ef : Geo.roomFault ns with
  | some g => unfold Geo.coverM; rw [ef]
  | none =>
    simp only [Option.bind_none]
    by_cases h : (Geo.rowM ps 0 8 && Geo.rowM es 1 16) = true
    · rw [if_neg (by rw [h]; simp), Geo.cover_few ef h]
      rfl
    · have h' : (Geo.rowM ps 0 8 && Geo.rowM es 1 16) = false := by simpa using h
      rw [if_pos h']
      unfold Geo.coverM
      rw [ef]
      simp only
      rw [if_neg h]
theorem ref_okC {right : Bool} {ns : List Int} (er : refO none right ns none = none) : Geo.roomFault ns = none ∧ right = true := by
  unfold refO at er
  cases ef : Geo.roomFault ns with
  | some g => rw [ef] at er; cases er
  | none =>
    rw [ef] at er
    simp only [Option.bind_none] at er
    by_cases h1 : right = false
    · rw [if_pos h1] at er; cases er
    · exact ⟨rfl, by simpa using h1⟩
section
variable {P : Program} {w : World} {K : PySem.W.Frag} {mg : Str → Option Value} {base : Heap} {f : Addr} {fd : FuncData}
theorem scCv : FnScope ["room", "places", "ears", "is_right", "refused", "listeners", "covered", "chosen", "place"] ["room", "places", "ears"] (defScope st_cover) := ⟨rfl, rfl, rfl, by decide +kernel, rfl, by decide +kernel, by decide +kernel⟩
theorem blkCv : blkC ["room", "places", "ears", "is_right", "refused", "listeners", "covered", "chosen", "place"] (defScope st_cover) { kind := .function, names := [(Str.ofString ".0", .local), (Str.ofString "place", .local), (Str.ofString "clear_from", .globalImplicit), (Str.ofString "listeners", .free), (Str.ofString "room", .free)], isGenerator := false, isCoroutine := false } [("place", 8)] = true := by decide +kernel
end
end Pr
end
section
local macro_rules | `(tactic| trivial) => `(tactic| first | lia -abstractProof | omega)
open PySem PySem.W PyProof.Rows
set_option Elab.async false
set_option linter.all false
set_option maxRecDepth 100000
set_option maxHeartbeats 2000000
namespace Pr
open L2 (V Hp DwAll Dw)
theorem rowOk_of {l : List Int} (h : Codec.inList 0 60 (Codec.inInt (Int.negSucc 9999999999999999999999999999999999999999) (Int.ofNat 10000000000000000000000000000000000000000)) l = true) : RowOk l := by
  have h' : ((decide (0 ≤ l.length) && decide (l.length ≤ 60)) && l.all (Codec.inInt (Int.negSucc 9999999999999999999999999999999999999999) (Int.ofNat 10000000000000000000000000000000000000000))) = true := h
  rw [Bool.and_eq_true, Bool.and_eq_true, decide_eq_true_eq, decide_eq_true_eq, List.all_eq_true] at h'
  refine ⟨h'.1.2, fun z hz => ?_⟩
  have h := Codec.inInt_iff.1 (h'.2 z hz)
  have h2 : z ≤ 10000000000000000000000000000000000000000 := h.2
  have h1 : -10000000000000000000000000000000000000000 ≤ z := h.1
  exact intBits_le_iff.2 (Nat.lt_of_le_of_lt (show z.natAbs ≤ 10000000000000000000000000000000000000000 by trivial) (by decide))
theorem dw_list {K : PySem.W.Frag} {H : Hp} {v : V} {l : List Int} (h : Dw K H v (.list (l.map WData.int))) : RoomAt K H v l := by
  cases h with
  | lst hs ha =>
    have e := L2.ints_dw l _ ha
    subst e
    exact ⟨_, rfl, hs⟩
theorem dw_cons {K : PySem.W.Frag} {H : Hp} {xs : List V} {d : WData} {ds : List WData} (h : DwAll K H xs (d :: ds)) : ∃ x ys, xs = x :: ys ∧ Dw K H x d ∧ DwAll K H ys ds := by
  cases h with
  | cons h1 h2 => exact ⟨_, _, rfl, h1, h2⟩
theorem dw_nil {K : PySem.W.Frag} {H : Hp} {xs : List V} (h : DwAll K H xs []) : xs = [] := by
  cases h
  rfl
end Pr
end
section
local macro_rules | `(tactic| trivial) => `(tactic| first | lia -abstractProof | omega)
open PySem PySem.W PyProof.Rows
set_option Elab.async false
set_option linter.all false
set_option maxRecDepth 100000
set_option maxHeartbeats 2000000
namespace Pr
open L2 (V Hp DwAll Dw)
theorem end_cover {K : PySem.W.Frag} {H : Hp} {xs : List V} (a : Codec.denoteAll PySem.Challenge.rw_hearingplaces_s05_cover.args) (hwi : Codec.withinAll PySem.Challenge.rw_hearingplaces_s05_cover.args a = true)
    (hask : Codec.app PySem.Challenge.rw_hearingplaces_s05_cover.args PySem.Challenge.rw_hearingplaces_s05_cover.asked a = true) (hx : L2.DwAll K H xs (Codec.encAll PySem.Challenge.rw_hearingplaces_s05_cover.args a)) :
    spCv K xs H (fun v H' => L2.Dw K H' v (PySem.Challenge.rw_hearingplaces_s05_cover.ret.enc (Codec.app PySem.Challenge.rw_hearingplaces_s05_cover.args PySem.Challenge.rw_hearingplaces_s05_cover.f a))) fun _ _ _ => False := by
  obtain ⟨room, ps, es, u⟩ := a
  have hx' : L2.DwAll K H xs [.list (room.map WData.int), .list (ps.map WData.int), .list (es.map WData.int)] := hx
  have q : (Codec.inList _ _ (Codec.inInt _ _) room && (Codec.inList 0 60 (Codec.inInt _ _) ps && (Codec.inList 0 60 (Codec.inInt _ _) es && _))) = true := hwi
  rw [Bool.and_eq_true, Bool.and_eq_true, Bool.and_eq_true] at q
  obtain ⟨x1, xs, rfl, h1, hx'⟩ := dw_cons hx'
  obtain ⟨x2, xs, rfl, h2, hx'⟩ := dw_cons hx'
  obtain ⟨x3, xs, rfl, h3, hx'⟩ := dw_cons hx'
  rw [dw_nil hx']
  refine ⟨x1, x2, x3, room, ps, es, rfl, dw_list h1, dw_list h2, dw_list h3, rowOk_of q.2.1, rowOk_of q.2.2.1, fun H' p hp => ?_⟩
  rw [Geo.coverM_eq] at hp
  exact .lst (L2.SqL.of hp) (L2.dw_ints _)
end Pr
end
section
local macro_rules | `(tactic| trivial) => `(tactic| first | lia -abstractProof | omega)
set_option Elab.async false
set_option linter.all false
set_option maxRecDepth 100000
set_option maxHeartbeats 0
namespace Pr
open PySem PySem.Spec PyProof.Rows L2
section
variable {P : Program} {w : World} {K : PySem.W.Frag} {mg : Str → Option Value} {base : Heap} {f : Addr} {fd : FuncData}
mutual
theorem ok_side (F : Fun K "side" "side" st_side f fd) : FnOk P w K mg base CX0 1 f fd ["a", "b", "p"] (spSide K) := by
  refine F.ok scSide (fun vs H Q E h => ?_) (fun cdv A outer s H vs Q E hr h => ?_)
  · obtain ⟨va, vb, vp, a, b, p, rfl, _⟩ := h
    rfl
  · obtain ⟨va, vb, vp, a, b, p, rfl, ⟨pa, xa, rfl, sa, a0, a1⟩, ⟨pb, xb, rfl, sb, b0, b1⟩, ⟨pp, xp, rfl, sp, p0, p1⟩, ⟨ba, bb, bp⟩, k⟩ := h
    refine ⟨_, pss_one (ps_ret (pe_op op_sub
      (pe_op op_mulB (pe_op op_sub (pe_ix ix_tup (pv 1) pe_int (fun _ _ => rfl)) (pe_ix ix_tup (pv 0) pe_int (fun _ _ => rfl))) (pe_op op_sub (pe_ix ix_tup (pv 2) pe_int (fun _ _ => rfl)) (pe_ix ix_tup (pv 0) pe_int (fun _ _ => rfl))))
      (pe_op op_mulB (pe_op op_sub (pe_ix ix_tup (pv 1) pe_int (fun _ _ => rfl)) (pe_ix ix_tup (pv 0) pe_int (fun _ _ => rfl))) (pe_op op_sub (pe_ix ix_tup (pv 2) pe_int (fun _ _ => rfl)) (pe_ix ix_tup (pv 0) pe_int (fun _ _ => rfl)))))), ?_⟩
    refine ⟨_, rfl, _, _, _, _, rfl, rfl, sb, at0 b0, _, rfl, _, _, _, _, rfl, rfl, sa, at0 a0, _, _, rfl, rfl, ?_⟩
    refine ⟨_, rfl, _, _, _, _, rfl, rfl, sp, at1 p1, _, rfl, _, _, _, _, rfl, rfl, sa, at1 a1, _, _, rfl, rfl, ?_⟩
    refine ⟨_, _, rfl, rfl, ⟨dif_bits bb.x ba.x, dif_bits bp.y ba.y⟩, ?_⟩
    refine ⟨_, rfl, _, _, _, _, rfl, rfl, sb, at1 b1, _, rfl, _, _, _, _, rfl, rfl, sa, at1 a1, _, _, rfl, rfl, ?_⟩
    refine ⟨_, rfl, _, _, _, _, rfl, rfl, sp, at0 p0, _, rfl, _, _, _, _, rfl, rfl, sa, at0 a0, _, _, rfl, rfl, ?_⟩
    refine ⟨_, _, rfl, rfl, ⟨dif_bits bb.y ba.y, dif_bits bp.x ba.x⟩, ?_⟩
    exact ⟨_, _, rfl, rfl, k⟩
theorem ok_spans (F : Fun K "spans_meet" "spans_meet" st_spans_meet f fd) (T : Txt mg) : FnOk P w K mg base CX0 1 f fd ["a", "b", "c", "d", "axis"] (spSpans K) := by
  refine F.ok scSpans (fun vs H Q E h => ?_) (fun cdv A outer s H vs Q E hr h => ?_)
  · obtain ⟨va, vb, vc, vd, i, a, b, c, d, rfl, _⟩ := h
    rfl
  · obtain ⟨va, vb, vc, vd, i, a, b, c, d, rfl, ⟨pa, xa, rfl, sa, ha⟩, ⟨pb, xb, rfl, sb, hb⟩, ⟨pc, xc, rfl, sc, hc⟩, ⟨pd, xd, rfl, sd, hd⟩, k⟩ := h
    refine ⟨_, pss_one (ps_ret (pe_and
      (pe_cmpR op_le (pe_callB (call_min2 rfl) (by rfl) T.min boot_min (pa_cons (pe_ix ix_tup (pv 0) (pv 4) (fun _ _ => rfl)) (pa_cons (pe_ix ix_tup (pv 1) (pv 4) (fun _ _ => rfl)) pa_nil)))
        (pe_callB (call_max2 rfl) (by rfl) T.max boot_max (pa_cons (pe_ix ix_tup (pv 2) (pv 4) (fun _ _ => rfl)) (pa_cons (pe_ix ix_tup (pv 3) (pv 4) (fun _ _ => rfl)) pa_nil))) (nomark _))
      (pe_one (pe_cmpR op_le (pe_callB (call_min2 rfl) (by rfl) T.min boot_min (pa_cons (pe_ix ix_tup (pv 2) (pv 4) (fun _ _ => rfl)) (pa_cons (pe_ix ix_tup (pv 3) (pv 4) (fun _ _ => rfl)) pa_nil)))
        (pe_callB (call_max2 rfl) (by rfl) T.max boot_max (pa_cons (pe_ix ix_tup (pv 0) (pv 4) (fun _ _ => rfl)) (pa_cons (pe_ix ix_tup (pv 1) (pv 4) (fun _ _ => rfl)) pa_nil))) (nomark _))))), ?_⟩
    refine ⟨_, rfl, _, rfl, _, _, _, _, rfl, rfl, sa, atI_nat ha, _, rfl, _, rfl, _, _, _, _, rfl, rfl, sb, atI_nat hb, _, _, rfl, ?_⟩
    refine ⟨_, rfl, _, rfl, _, _, _, _, rfl, rfl, sc, atI_nat hc, _, rfl, _, rfl, _, _, _, _, rfl, rfl, sd, atI_nat hd, _, _, rfl, ?_⟩
    refine ⟨_, _, rfl, rfl, _, rfl, ?_⟩
    rw [min_if, max_if]
    refine iteB (fun e => ?_) (fun e => ?_)
    · refine ⟨_, rfl, _, rfl, _, _, _, _, rfl, rfl, sc, atI_nat hc, _, rfl, _, rfl, _, _, _, _, rfl, rfl, sd, atI_nat hd, _, _, rfl, ?_⟩
      refine ⟨_, rfl, _, rfl, _, _, _, _, rfl, rfl, sa, atI_nat ha, _, rfl, _, rfl, _, _, _, _, rfl, rfl, sb, atI_nat hb, _, _, rfl, ?_⟩
      refine ⟨_, _, rfl, rfl, ?_⟩
      rw [min_if, max_if]
      rw [e, Bool.true_and] at k
      exact k
    · rw [e, Bool.false_and] at k
      exact k
theorem ok_meet (F : Fun K "lines_meet" "lines_meet" st_lines_meet f fd) (CS : Cal P w K mg base 1 "spans_meet" ["a", "b", "c", "d", "axis"] (spSpans K)) (CD : Cal P w K mg base 1 "side" ["a", "b", "p"] (spSide K)) :
    FnOk P w K mg base CX0 2 f fd ["a", "b", "c", "d"] (spMeet K) := by
  obtain ⟨fS, fdS, GS, mS, kS, bS⟩ := CS.ex
  obtain ⟨fD, fdD, GD, mD, kD, bD⟩ := CD.ex
  refine F.ok scMeet (fun vs H Q E h => ?_) (fun cdv A outer s H vs Q E hr h => ?_)
  · obtain ⟨va, vb, vc, vd, a, b, c, d, rfl, _⟩ := h
    rfl
  · obtain ⟨va, vb, vc, vd, a, b, c, d, rfl, ha, hb, hc, hd, ⟨ba, bb, bc, bd⟩, k⟩ := h
    refine ⟨_, pss_one (ps_ret (pe_and
      (pe_call GS hr rfl mS kS bS .nil pass0 (pa_cons (pv 0) (pa_cons (pv 1) (pa_cons (pv 2) (pa_cons (pv 3) (pa_cons pe_int pa_nil))))))
      (pe_and (pe_call GS hr rfl mS kS bS .nil pass0 (pa_cons (pv 0) (pa_cons (pv 1) (pa_cons (pv 2) (pa_cons (pv 3) (pa_cons pe_int pa_nil))))))
      (pe_and (pe_cmpR op_le (pe_op op_mulB (pe_call GD hr rfl mD kD bD .nil pass0 (pa_cons (pv 0) (pa_cons (pv 1) (pa_cons (pv 2) pa_nil)))) (pe_call GD hr rfl mD kD bD .nil pass0 (pa_cons (pv 0) (pa_cons (pv 1) (pa_cons (pv 3) pa_nil))))) pe_int (nomark _))
      (pe_one (pe_cmpR op_le (pe_op op_mulB (pe_call GD hr rfl mD kD bD .nil pass0 (pa_cons (pv 2) (pa_cons (pv 3) (pa_cons (pv 0) pa_nil)))) (pe_call GD hr rfl mD kD bD .nil pass0 (pa_cons (pv 2) (pa_cons (pv 3) (pa_cons (pv 1) pa_nil))))) pe_int (nomark _))))))), ?_⟩
    have iff : Geo.lm a b c d ↔ ((min a.1 b.1 ≤ max c.1 d.1 ∧ min c.1 d.1 ≤ max a.1 b.1) ∧ (min a.2 b.2 ≤ max c.2 d.2 ∧ min c.2 d.2 ≤ max a.2 b.2) ∧ Geo.sd a b c * Geo.sd a b d ≤ 0 ∧ Geo.sd c d a * Geo.sd c d b ≤ 0) := Iff.rfl
    refine ⟨_, rfl, _, rfl, _, rfl, _, rfl, _, _, _, _, 0, _, _, _, _, rfl, ha.co0, hb.co0, hc.co0, hd.co0, _, rfl, iteB (fun e1 => ?_) (fun e1 => ?_)⟩
    · refine ⟨_, rfl, _, rfl, _, rfl, _, rfl, _, _, _, _, 1, _, _, _, _, rfl, ha.co1, hb.co1, hc.co1, hd.co1, _, rfl, iteB (fun e2 => ?_) (fun e2 => ?_)⟩
      · simp only [Bool.and_eq_true, decide_eq_true_eq] at e1 e2
        refine ⟨_, rfl, _, rfl, _, rfl, _, _, _, a, b, c, rfl, ha, hb, hc, ⟨ba, bb, bc⟩, ?_⟩
        refine ⟨_, rfl, _, rfl, _, rfl, _, _, _, a, b, d, rfl, ha, hb, hd, ⟨ba, bb, bd⟩, ?_⟩
        refine ⟨_, _, rfl, rfl, ⟨sd_bits ba bb bc, sd_bits ba bb bd⟩, ?_⟩
        refine ⟨_, _, rfl, rfl, _, rfl, iteB (fun e3 => ?_) (fun e3 => ?_)⟩
        · rw [decide_eq_true_eq] at e3
          refine ⟨_, rfl, _, rfl, _, rfl, _, _, _, c, d, a, rfl, hc, hd, ha, ⟨bc, bd, ba⟩, ?_⟩
          refine ⟨_, rfl, _, rfl, _, rfl, _, _, _, c, d, b, rfl, hc, hd, hb, ⟨bc, bd, bb⟩, ?_⟩
          refine ⟨_, _, rfl, rfl, ⟨sd_bits bc bd ba, sd_bits bc bd bb⟩, ?_⟩
          refine ⟨_, _, rfl, rfl, ?_⟩
          have : decide (Geo.lm a b c d) = decide (Geo.sd c d a * Geo.sd c d b ≤ 0) := by
            rw [decide_eq_decide, iff]
            exact ⟨fun h => h.2.2.2, fun h => ⟨e1, e2, e3, h⟩⟩
          rw [this] at k
          exact k
        · rw [decide_eq_false_iff_not] at e3
          rw [decide_eq_false (fun h => e3 (iff.1 h).2.2.1)] at k
          exact k
      · rw [decide_eq_false (fun h => by
          have := (iff.1 h).2.1
          simp only [Bool.and_eq_false_iff, decide_eq_false_iff_not] at e2
          trivial)] at k
        exact k
    · rw [decide_eq_false (fun h => by
        have := (iff.1 h).1
        simp only [Bool.and_eq_false_iff, decide_eq_false_iff_not] at e1
        trivial)] at k
      exact k
theorem ok_stuff (F : Fun K "is_stuff" "is_stuff" st_is_stuff f fd) (T : Txt mg) : FnOk P w K mg base CX0 1 f fd ["number"] spStuff := by
  obtain ⟨t5, m5⟩ := T.stuff
  refine F.ok scStuff (fun vs H Q E h => ?_) (fun cdv A outer s H vs Q E hr h => ?_)
  · obtain ⟨z, rfl, _⟩ := h
    rfl
  · obtain ⟨z, rfl, k⟩ := h
    refine ⟨_, pss_one (ps_ret (pe_chain op_le op_le pe_int (pv 0) (pe_glob (v := .int 7) rfl m5 ⟨_, rfl⟩))), ?_⟩
    unfold Geo.stuffM at k
    refine ⟨_, rfl, _, _, rfl, rfl, _, rfl, iteB (fun e => ?_) (fun e => ?_)⟩
    · rw [e, Bool.true_and] at k
      exact ⟨_, _, rfl, rfl, k⟩
    · rw [e, Bool.false_and] at k
      exact k
theorem ok_len (F : Fun K "is_length_right" "is_length_right" st_is_length_right f fd) (T : Txt mg) : FnOk P w K mg base CX0 1 f fd ["room"] (spLen K) := by
  obtain ⟨t1, m1⟩ := T.head
  obtain ⟨t2, m2⟩ := T.least
  obtain ⟨t3, m3⟩ := T.most
  refine F.ok scLen (fun vs H Q E h => ?_) (fun cdv A outer s H vs Q E hr h => ?_)
  · obtain ⟨v, ns, rfl, _⟩ := h
    rfl
  · obtain ⟨v, ns, rfl, ⟨l, rfl, sl⟩, k⟩ := h
    refine ⟨_, pss_one (ps_ret (pe_and
      (pe_cmpR op_eq (pe_op op_mod (pe_callB call_len_seq (by rfl) T.len PySem.boot_len (pa_cons (pv 0) pa_nil)) pe_int) pe_int (nomark _))
      (pe_one (pe_chain op_le op_le (pe_glob (v := .int 3) rfl m2 ⟨_, rfl⟩) (pe_op op_fdiv (pe_op op_sub (pe_callB call_len_seq (by rfl) T.len PySem.boot_len (pa_cons (pv 0) pa_nil)) (pe_glob (v := .int 3) rfl m1 ⟨_, rfl⟩)) pe_int) (pe_glob (v := .int 64) rfl m3 ⟨_, rfl⟩))))), ?_⟩
    refine ⟨_, rfl, _, _, rfl, .inl sl, _, _, rfl, rfl, (by show (0 : Int) < 3; decide), rfl, _, rfl, iteB (fun e1 => ?_) (fun e1 => ?_)⟩
    · refine ⟨_, rfl, _, _, rfl, .inl sl, _, _, rfl, rfl, _, _, rfl, rfl, ⟨by decide, by decide⟩, _, _, rfl, rfl, _, rfl, iteB (fun e2 => ?_) (fun e2 => ?_)⟩
      · refine ⟨_, _, rfl, rfl, ?_⟩
        simp only [decide_eq_true_eq, L2.V.int.injEq, List.length_map] at e1 e2
        have : Geo.lenM ns = decide ((((ns.map L2.V.int).length : Int) - 3) / 3 ≤ 64) := by
          apply Geo.bool_ext
          unfold Geo.lenM Geo.cn
          rw [List.length_map]
          simp only [Bool.and_eq_true, decide_eq_true_eq]
          trivial
        rw [this] at k
        exact k
      · simp only [decide_eq_false_iff_not, decide_eq_true_eq, L2.V.int.injEq, List.length_map] at e1 e2
        have : Geo.lenM ns = false := by
          unfold Geo.lenM Geo.cn
          simp only [Bool.and_eq_false_iff, decide_eq_false_iff_not]
          trivial
        rw [this] at k
        exact k
    · simp only [decide_eq_false_iff_not, L2.V.int.injEq, List.length_map] at e1
      have : Geo.lenM ns = false := by
        unfold Geo.lenM Geo.cn
        simp only [Bool.and_eq_false_iff, decide_eq_false_iff_not]
        trivial
      rw [this] at k
      exact k
theorem ok_head (F : Fun K "is_head_right" "is_head_right" st_is_head_right f fd) (T : Txt mg) (CS : Cal P w K mg base 1 "is_stuff" ["number"] spStuff) : FnOk P w K mg base CX0 2 f fd ["room"] (spHead K) := by
  obtain ⟨t4, m4⟩ := T.length
  obtain ⟨fS, fdS, GS, mS, kS, bS⟩ := CS.ex
  refine F.ok scHead (fun vs H Q E h => ?_) (fun cdv A outer s H vs Q E hr h => ?_)
  · obtain ⟨v, ns, rfl, _⟩ := h
    rfl
  · obtain ⟨v, ns, rfl, ⟨l, rfl, sl⟩, hn, k⟩ := h
    refine ⟨_, pss_one (ps_ret (pe_and
      (pe_chain op_le op_le pe_int (pe_ix ix_list (pv 0) pe_int (fun _ _ => rfl)) (pe_glob (v := .int 4095) rfl m4 ⟨_, rfl⟩))
      (pe_and (pe_call GS hr rfl mS kS bS .nil pass0 (pa_cons (pe_ix ix_list (pv 0) pe_int (fun _ _ => rfl)) pa_nil))
      (pe_one (pe_call GS hr rfl mS kS bS .nil pass0 (pa_cons (pe_ix ix_list (pv 0) pe_int (fun _ _ => rfl)) pa_nil)))))), ?_⟩
    unfold Geo.headM at k
    have s1 : (if Geo.stuffM (ns.getD 1 0) = true then True else True) := by split <;> trivial
    refine ⟨_, rfl, _, _, _, _, rfl, rfl, sl, at0 (room_at (by trivial)), _, _, rfl, rfl, _, rfl, iteB (fun e1 => ?_) (fun e1 => ?_)⟩
    · refine ⟨_, _, rfl, rfl, _, rfl, iteB (fun e2 => ?_) (fun e2 => ?_)⟩
      · rw [e1, e2, Bool.true_and, Bool.true_and] at k
        refine ⟨_, rfl, _, _, _, _, rfl, rfl, sl, at1 (room_at (by trivial)), _, rfl, _, rfl, iteB (fun e3 => ?_) (fun e3 => ?_)⟩
        · rw [e3, Bool.true_and] at k
          exact ⟨_, rfl, _, _, _, _, rfl, rfl, sl, at2 (room_at (by trivial)), _, rfl, k⟩
        · rw [e3, Bool.false_and] at k
          exact k
      · rw [e1, e2, Bool.true_and, Bool.false_and] at k
        exact k
    · rw [e1, Bool.false_and, Bool.false_and] at k
      refine ⟨_, rfl, iteF k⟩
theorem ok_corner (F : Fun K "is_corner_right" "is_corner_right" st_is_corner_right f fd) (T : Txt mg) (CS : Cal P w K mg base 1 "is_stuff" ["number"] spStuff) : FnOk P w K mg base CX0 2 f fd ["x", "y", "stuff"] spCorner := by
  obtain ⟨t4, m4⟩ := T.length
  obtain ⟨fS, fdS, GS, mS, kS, bS⟩ := CS.ex
  refine F.ok scCorner (fun vs H Q E h => ?_) (fun cdv A outer s H vs Q E hr h => ?_)
  · obtain ⟨x, y, z, rfl, _⟩ := h
    rfl
  · obtain ⟨x, y, z, rfl, k⟩ := h
    refine ⟨_, pss_one (ps_ret (pe_and
      (pe_chain op_le op_le pe_int (pv 0) (pe_glob (v := .int 4095) rfl m4 ⟨_, rfl⟩))
      (pe_and (pe_chain op_le op_le pe_int (pv 1) (pe_glob (v := .int 4095) rfl m4 ⟨_, rfl⟩))
      (pe_one (pe_call GS hr rfl mS kS bS .nil pass0 (pa_cons (pv 2) pa_nil)))))), ?_⟩
    refine ⟨_, rfl, _, _, rfl, rfl, _, rfl, iteB (fun e1 => ?_) (fun e1 => ?_)⟩
    · refine ⟨_, _, rfl, rfl, _, rfl, iteB (fun e2 => ?_) (fun e2 => ?_)⟩
      · rw [e1, e2, Bool.true_and, Bool.true_and] at k
        refine ⟨_, rfl, _, _, rfl, rfl, _, rfl, iteB (fun e3 => ?_) (fun e3 => ?_)⟩
        · refine ⟨_, _, rfl, rfl, _, rfl, iteB (fun e4 => ?_) (fun e4 => ?_)⟩
          · rw [e3, e4, Bool.true_and, Bool.true_and] at k
            exact ⟨_, rfl, _, rfl, k⟩
          · rw [e3, e4, Bool.true_and, Bool.false_and] at k
            exact k
        · rw [e3, Bool.false_and, Bool.false_and] at k
          exact ⟨_, rfl, iteF k⟩
      · rw [e1, e2, Bool.true_and, Bool.false_and] at k
        exact k
    · rw [e1, Bool.false_and, Bool.false_and] at k
      exact ⟨_, rfl, iteF k⟩
theorem ok_dir (F : Fun K "is_direction_right" "is_direction_right" st_is_direction_right f fd) (T : Txt mg) : FnOk P w K mg base CX0 1 f fd ["line"] (spDir K) := by
  refine F.ok scDir (fun vs H Q E h => ?_) (fun cdv A outer s H vs Q E hr h => ?_)
  · obtain ⟨v, a, b, rfl, _⟩ := h
    rfl
  · obtain ⟨v, a, b, rfl, ⟨l, va, vb, rfl, sl, ⟨pa, xa, rfl, sa, a0, a1⟩, ⟨pb, xb, rfl, sb, b0, b1⟩⟩, k⟩ := h
    refine ⟨_, pss_cons (ps_set (i := 1) scDir.nd rfl (Or.inl rfl) (pe_callB call_abs (by rfl) T.abs boot_abs (pa_cons (pe_op op_sub (pe_ix ix_tup (pe_ix ix_tup (pv 0) pe_int (fun _ _ => rfl)) pe_int (fun _ _ => rfl)) (pe_ix ix_tup (pe_ix ix_tup (pv 0) pe_int (fun _ _ => rfl)) pe_int (fun _ _ => rfl))) pa_nil)))
      (pss_cons (ps_set (i := 2) scDir.nd rfl (Or.inl rfl) (pe_callB call_abs (by rfl) T.abs boot_abs (pa_cons (pe_op op_sub (pe_ix ix_tup (pe_ix ix_tup (pv 0) pe_int (fun _ _ => rfl)) pe_int (fun _ _ => rfl)) (pe_ix ix_tup (pe_ix ix_tup (pv 0) pe_int (fun _ _ => rfl)) pe_int (fun _ _ => rfl))) pa_nil)))
      (pss_cons (ps_if (pw_and (pt_cmpR op_eq (pv 1) pe_int (nomark _)) (pw_and1 (pt_cmpR op_eq (pv 2) pe_int (nomark _)))).pt (pss_one (ps_ret pe_bl)) pss_nil)
      (pss_one (ps_ret (pe_or (pe_cmpR op_eq (pv 1) pe_int (nomark _)) (pe_or (pe_cmpR op_eq (pv 2) pe_int (nomark _)) (pe_one (pe_cmpR op_eq (pv 1) (pv 2) (nomark _))))))))), ?_⟩
    refine ⟨_, rfl, _, _, _, _, rfl, rfl, sl, at1 rfl, _, _, _, _, rfl, rfl, sb, at0 b0, _, rfl, _, _, _, _, rfl, rfl, sl, at0 rfl, _, _, _, _, rfl, rfl, sa, at0 a0, _, _, rfl, rfl, _, rfl, ?_⟩
    rw [abs_if]
    refine ⟨_, rfl, _, _, _, _, rfl, rfl, sl, at1 rfl, _, _, _, _, rfl, rfl, sb, at1 b1, _, rfl, _, _, _, _, rfl, rfl, sl, at0 rfl, _, _, _, _, rfl, rfl, sa, at1 a1, _, _, rfl, rfl, _, rfl, ?_⟩
    rw [abs_if]
    have z : ∀ i : Int, decide (L2.V.int (i.natAbs : Int) = L2.V.int 0) = decide (i = 0) := by
      intro i
      rw [decide_eq_decide, L2.V.int.injEq]
      trivial
    have fin : ∀ c : Bool, Geo.dirM a b = c → Q (.bl c) H := fun c e => by rw [← e]; exact k
    unfold Geo.dirM at fin
    refine ⟨_, rfl, rfl, _, rfl, iteB (fun e1 => ?_) (fun e1 => ?_)⟩
    · rw [z, decide_eq_true_eq] at e1
      refine ⟨_, rfl, rfl, _, rfl, iteB (fun e2 => ?_) (fun e2 => ?_)⟩
      · rw [z, decide_eq_true_eq] at e2
        exact fin false (by rw [decide_eq_true e1, decide_eq_true e2]; rfl)
      · rw [z, decide_eq_false_iff_not] at e2
        refine ⟨_, rfl, rfl, _, rfl, ?_⟩
        rw [z, decide_eq_true e1, if_pos rfl]
        exact fin true (by rw [decide_eq_true e1, decide_eq_false e2]; rfl)
    · have e1' := e1
      rw [z, decide_eq_false_iff_not] at e1
      refine iteF ?_
      refine ⟨_, rfl, rfl, _, rfl, ?_⟩
      rw [e1']
      refine iteF ?_
      refine ⟨_, rfl, rfl, _, rfl, iteB (fun e2 => ?_) (fun e2 => ?_)⟩
      · rw [z, decide_eq_true_eq] at e2
        exact fin true (by rw [decide_eq_false e1, decide_eq_true e2]; rfl)
      · rw [z, decide_eq_false_iff_not] at e2
        refine ⟨_, rfl, _, rfl, rfl, ?_⟩
        refine fin _ ?_
        rw [decide_eq_false e1, decide_eq_false e2]
        simp only [Bool.false_and, Bool.not_false, Bool.true_and, Bool.false_or]
        rw [decide_eq_decide, L2.V.int.injEq]
        trivial
theorem ok_corners (F : Fun K "corners_of" "corners_of" st_corners_of f fd) (T : Txt mg) : FnOk P w K mg base CX0 1 f fd ["room"] (spCorners K) := by
  obtain ⟨t1, m1⟩ := T.head
  refine F.ok scCorners (fun vs H Q E h => ?_) (fun cdv A outer s H vs Q E hr h => ?_)
  · obtain ⟨v, ns, n, rfl, _⟩ := h
    rfl
  · obtain ⟨v, ns, n, rfl, ⟨l, rfl, sl⟩, hn, h64, k⟩ := h
    refine ⟨_, pss_one (ps_ret (pe_lc (own := [("k", 1)]) rfl scCorners.nd
      (pi_range3 rfl T.range (pa_cons (pe_glob (v := .int 3) rfl m1 ⟨_, rfl⟩) (pa_cons (pe_callB call_len_seq (by rfl) T.len PySem.boot_len (pa_cons (pv 0) pa_nil)) (pa_cons pe_int pa_nil))))
      (blkOk_by blkCorners) (fun _ _ _ _ _ => pg_name (i := 1) scCorners.nd rfl (Or.inl rfl)) (fun _ _ _ _ _ => pts_nil)
      (fun _ _ _ _ _ => pe_tup (pa_cons (pe_ix (ixl (K := K) rfl) (pv 0) (pv 1) (fun _ _ => rfl)) (pa_cons (pe_ix (ixl (K := K) rfl) (pv 0) (pe_op op_add (pv 1) pe_int) (fun _ _ => rfl)) pa_nil))))), ?_⟩
    have hlen : (ns.map L2.V.int).length = 3 + 3 * n := by rw [List.length_map]; exact hn
    refine ⟨_, rfl, _, _, rfl, .inl sl, 3, ((3 + 3 * n : Nat) : Int), 3, n, (by rw [hlen]; all_goals rfl), rg3 (by trivial), fun D hD => lc_rangeC (fun i H' => Same H H' ∧ ∃ acc, H' D = some (.lst acc) ∧ acc.length = i ∧ ∀ j x, acc[j]? = some x → PtAt K H' x (cnr ns j)) ?_ ?_ ?_⟩
    · exact ⟨Same.set hD (Same.refl H), [], upd_same, rfl, fun j x h => by simp at h⟩
    · rintro i H' hi ⟨s1, acc, hacc, hal, hall⟩
      refine ⟨rfl, ?_⟩
      refine ⟨_, rfl, _, rfl, _, _, _, _, rfl, rfl, s1.seq sl, at_of (j := 3 + 3 * i) (by trivial) (room_at (by trivial)), ?_⟩
      refine ⟨_, rfl, _, rfl, _, _, rfl, rfl, _, _, _, _, rfl, rfl, s1.seq sl, at_of (j := 3 + 3 * i + 1) (by trivial) (room_at (by trivial)), ?_⟩
      refine ⟨(by show 2 ≤ sizeLine; decide), fun t ht => ?_⟩
      have hDt : D ≠ t := ne_of_none hacc ht
      have e1 : (L2.upd H' t (.tup [.int (ns.getD (3 + 3 * i) 0), .int (ns.getD (3 + 3 * i + 1) 0)])) D = some (.lst acc) := by rw [upd_ne hDt]; exact hacc
      refine ⟨acc, e1, by rw [hal]; exact Nat.lt_of_lt_of_le hi (Nat.le_trans h64 (by decide)), Same.set hD (Same.upd s1 ht), _, upd_same, by rw [List.length_append, hal]; rfl, fun j x hx => ?_⟩
      refine PtAt.set e1 ?_
      rcases snoc_get hx with ⟨_, hx⟩ | ⟨hj, rfl⟩
      · exact (hall j x hx).mono (Same.upd (Same.refl H') ht)
      · rw [hal] at hj
        subst hj
        exact ⟨t, _, rfl, SqT.of upd_same, rfl, rfl⟩
    · rintro H' ⟨s1, acc, hacc, hal, hall⟩
      exact k H' _ s1 ⟨D, acc, rfl, SqL.of hacc, hal, hall⟩
theorem ok_lines (F : Fun K "lines_of" "lines_of" st_lines_of f fd) (T : Txt mg) (CC : Cal P w K mg base 1 "corners_of" ["room"] (spCorners K)) : FnOk P w K mg base CX0 2 f fd ["room"] (spLines K) := by
  obtain ⟨fC, fdC, GC, mC, kC, bC⟩ := CC.ex
  refine F.ok scLines (fun vs H Q E h => ?_) (fun cdv A outer s H vs Q E hr h => ?_)
  · obtain ⟨v, ns, n, rfl, _⟩ := h
    rfl
  · obtain ⟨v, ns, n, rfl, hR, hn, h1, h64, k⟩ := h
    refine ⟨_, pss_cons (ps_set (i := 1) scLines.nd rfl (Or.inr rfl) (pe_call GC hr rfl mC kC bC .nil pass0 (pa_cons (pv 0) pa_nil)))
      (pss_one (ps_ret (pe_op op_cat
        (pe_lc (own := [("i", 2)]) rfl scLines.nd
          (pi_range2 rfl T.range (pa_cons pe_int (pa_cons (pe_callB call_len_seq (by rfl) T.len PySem.boot_len (pa_cons (pv 1) pa_nil)) pa_nil)))
          (blkOk_by blkLines) (fun _ _ _ _ _ => pg_name (i := 2) scLines.nd rfl (Or.inl rfl)) (fun _ _ _ _ _ => pts_nil)
          (fun _ _ _ _ _ => pe_tup (pa_cons (pe_ix (ixl (K := K) rfl) (pv 1) (pe_op op_sub (pv 2) pe_int) (fun _ _ => rfl)) (pa_cons (pe_ix (ixl (K := K) rfl) (pv 1) (pv 2) (fun _ _ => rfl)) pa_nil))))
        (pe_lst (pa_cons (pe_tup (pa_cons (pe_ix (ixl (K := K) rfl) (pv 1) (pe_un un_neg pe_int) (fun _ _ => rfl)) (pa_cons (pe_ix (ixl (K := K) rfl) (pv 1) pe_int (fun _ _ => rfl)) pa_nil))) pa_nil))))), ?_⟩
    have hcn : Geo.cn ns = n := by unfold Geo.cn; trivial
    have hcu : ∀ i, i < n → Geo.cu ns i = cnr ns i := fun i hi => by unfold Geo.cu cnr; rw [hcn, Nat.mod_eq_of_lt hi]
    have hcun : Geo.cu ns n = cnr ns 0 := by unfold Geo.cu cnr; rw [hcn, Nat.mod_self]
    refine ⟨_, rfl, _, ns, n, rfl, hR, hn, h64, fun H1 x s1 hC => ?_⟩
    obtain ⟨l, cs, rfl, sl, hl, hc⟩ := hC
    have get : ∀ i, i < n → ∃ v, cs[i]? = some v ∧ PtAt K H1 v (cnr ns i) := fun i hi => by
      have : i < cs.length := by trivial
      exact ⟨_, List.getElem?_eq_getElem this, hc i _ (List.getElem?_eq_getElem this)⟩
    refine ⟨_, rfl, _, _, rfl, .inl sl, 1, (n : Int), (by rw [hl]; all_goals rfl), ⟨by trivial, by trivial, by trivial, by trivial⟩, fun D hD => lc_range (fun i H' => Same H1 H' ∧ ∃ acc, H' D = some (.lst acc) ∧ acc.length = i ∧ ∀ j x, acc[j]? = some x → LineAt K H' x (cnr ns j) (cnr ns (j + 1))) ?_ ?_ ?_⟩
    · exact ⟨Same.set hD (Same.refl H1), [], upd_same, rfl, fun j x h => by simp at h⟩
    · rintro i H' hi ⟨s2, acc, hacc, hal, hall⟩
      have hi' : i + 1 < n := by trivial
      obtain ⟨va, ga, pa⟩ := get i (by trivial)
      obtain ⟨vb, gb, pb⟩ := get (i + 1) hi'
      refine ⟨rfl, ?_⟩
      refine ⟨_, rfl, _, rfl, _, _, rfl, rfl, _, _, _, _, rfl, rfl, s2.seq sl, at_of (j := i) (by trivial) ga, ?_⟩
      refine ⟨_, rfl, _, rfl, _, _, _, _, rfl, rfl, s2.seq sl, at_of (j := i + 1) (by trivial) gb, ?_⟩
      refine ⟨(by show 2 ≤ sizeLine; decide), fun t ht => ?_⟩
      have hDt : D ≠ t := ne_of_none hacc ht
      have e1 : (L2.upd H' t (.tup [va, vb])) D = some (.lst acc) := by rw [upd_ne hDt]; exact hacc
      have st : Same H' (L2.upd H' t (.tup [va, vb])) := Same.upd (Same.refl H') ht
      refine ⟨acc, e1, by rw [hal]; exact Nat.lt_of_lt_of_le (show i < 64 by trivial) (by decide), Same.set hD (Same.upd s2 ht), _, upd_same, by rw [List.length_append, hal]; rfl, fun j x hx => ?_⟩
      refine LineAt.set e1 ?_
      rcases snoc_get hx with ⟨_, hx⟩ | ⟨hj, rfl⟩
      · exact (hall j x hx).mono st
      · rw [hal] at hj
        subst hj
        exact ⟨t, va, vb, rfl, SqT.of upd_same, (pa.mono s2).mono st, (pb.mono s2).mono st⟩
    · rintro H' ⟨s2, acc, hacc, hal, hall⟩
      obtain ⟨va, ga, pa⟩ := get (n - 1) (by trivial)
      obtain ⟨vb, gb, pb⟩ := get 0 (by trivial)
      have hlast : atI cs (-1) = some va := by
        unfold atI ixN
        rw [if_neg (by decide), if_pos (by trivial), hl]
        show cs[((-1 : Int) + (n : Int)).toNat]? = some va
        rw [show ((-1 : Int) + (n : Int)).toNat = n - 1 by trivial]
        exact ga
      refine ⟨_, rfl, _, rfl, _, _, _, _, rfl, rfl, s2.seq sl, hlast, ?_⟩
      refine ⟨_, rfl, _, _, _, _, rfl, rfl, s2.seq sl, at0 gb, ?_⟩
      refine ⟨(by show 2 ≤ sizeLine; decide), fun t ht => ⟨(by show 1 ≤ sizeLine; decide), fun b hb => ?_⟩⟩
      have st : Same H' (L2.upd H' t (.tup [va, vb])) := Same.upd (Same.refl H') ht
      have sb : Same H' (L2.upd (L2.upd H' t (.tup [va, vb])) b (.lst [.ref t])) := Same.upd st hb
      have stb : Same (L2.upd H' t (.tup [va, vb])) (L2.upd (L2.upd H' t (.tup [va, vb])) b (.lst [.ref t])) := Same.upd (Same.refl _) hb
      refine ⟨D, b, acc, [.ref t], rfl, rfl, sb _ _ hacc, upd_same, by rw [hal]; exact Nat.le_trans (show ((n : Int) - 1).toNat + 1 ≤ 64 by trivial) (show 64 ≤ sizeLine by decide), fun p hp => ?_⟩
      have sp : Same (L2.upd (L2.upd H' t (.tup [va, vb])) b (.lst [.ref t])) (L2.upd (L2.upd (L2.upd H' t (.tup [va, vb])) b (.lst [.ref t])) p (.lst (acc ++ [.ref t]))) := Same.upd (Same.refl _) hp
      have hal' : acc.length = n - 1 := by trivial
      refine k _ _ ((s1.trans s2).trans (sb.trans sp)) ⟨p, _, rfl, SqL.of upd_same, by rw [List.length_append, hal']; show n - 1 + 1 = n; trivial, fun j x hx => ?_⟩
      rcases snoc_get hx with ⟨hj, hx⟩ | ⟨hj, rfl⟩
      · rw [hal'] at hj
        rw [hcu j (by trivial), hcu (j + 1) (by trivial)]
        exact ((hall j x hx).mono sb).mono sp
      · rw [hal'] at hj
        subst hj
        rw [show n - 1 + 1 = n by trivial, hcun, hcu (n - 1) (by trivial)]
        refine LineAt.mono sp (LineAt.mono stb ⟨t, va, vb, rfl, SqT.of upd_same, (pa.mono s2).mono st, (pb.mono s2).mono st⟩)
theorem ok_wc (F : Fun K "wrong_corner" "wrong_corner" st_wrong_corner f fd) (T : Txt mg) (CC : Cal P w K mg base 2 "is_corner_right" ["x", "y", "stuff"] spCorner) : FnOk P w K mg base CX0 3 f fd ["room"] (spWC K) := by
  obtain ⟨t1, m1⟩ := T.head
  obtain ⟨fC, fdC, GC, mC, kC, bC⟩ := CC.ex
  refine F.ok scWC (fun vs H Q E h => ?_) (fun cdv A outer s H vs Q E hr h => ?_)
  · obtain ⟨v, ns, n, rfl, _⟩ := h
    rfl
  · obtain ⟨v, ns, n, rfl, ⟨l, rfl, sl⟩, hn, h64, k⟩ := h
    refine ⟨_, pss_cons (ps_for PassesOwn.never rfl
        (pi_range3 rfl T.range (pa_cons (pe_glob (v := .int 3) rfl m1 ⟨_, rfl⟩) (pa_cons (pe_callB call_len_seq (by rfl) T.len PySem.boot_len (pa_cons (pv 0) pa_nil)) (pa_cons pe_int pa_nil))))
        (pg_name (i := 1) scWC.nd rfl (Or.inl rfl))
        (pss_one (ps_if (pt_not (pt_val (pe_call GC hr rfl mC kC bC .nil pass0 (pa_cons (pe_ix ix_list (pv 0) (pv 1) (fun _ _ => rfl)) (pa_cons (pe_ix ix_list (pv 0) (pe_op op_add (pv 1) pe_int) (fun _ _ => rfl)) (pa_cons (pe_ix ix_list (pv 0) (pe_op op_add (pv 1) pe_int) (fun _ _ => rfl)) pa_nil))))))
          (pss_one (ps_ret (pe_op op_fdiv (pe_op op_sub (pv 1) (pe_glob (v := .int 3) rfl m1 ⟨_, rfl⟩)) pe_int))) pss_nil)))
      (pss_one (ps_ret pe_non)), ?_⟩
    have hlen : (ns.map L2.V.int).length = 3 + 3 * n := by rw [List.length_map]; exact hn
    refine ⟨_, rfl, _, _, rfl, .inl sl, 3, ((3 + 3 * n : Nat) : Int), 3, n, (by rw [hlen]; all_goals rfl), rg3 (by trivial),
      for_rangeC (fun i σ H' => H' = H ∧ (∃ x, σ = [some (.ref l), x]) ∧ ∀ j, j < i → Geo.cornerM ns j = true) ⟨rfl, ⟨_, rfl⟩, fun j hj => by trivial⟩ ?_ ?_⟩
    · rintro i σ H' hi ⟨rfl, ⟨x, rfl⟩, hb⟩
      refine ⟨_, rfl, _, rfl, _, _, _, _, rfl, rfl, sl, at_of (j := 3 + 3 * i) (by trivial) (room_at (by trivial)), ?_⟩
      refine ⟨_, rfl, _, rfl, _, _, rfl, rfl, _, _, _, _, rfl, rfl, sl, at_of (j := 3 + 3 * i + 1) (by trivial) (room_at (by trivial)), ?_⟩
      refine ⟨_, rfl, _, rfl, _, _, rfl, rfl, _, _, _, _, rfl, rfl, sl, at_of (j := 3 + 3 * i + 2) (by trivial) (room_at (by trivial)), ?_⟩
      refine ⟨_, _, _, rfl, _, rfl, iteB (fun e => ?_) (fun e => ?_)⟩
      · refine ⟨_, rfl, _, _, rfl, rfl, _, _, rfl, rfl, ⟨by decide, by decide⟩, ?_⟩
        rw [find_at (p := fun i => !Geo.cornerM ns i) hi (by unfold Geo.cornerM; exact e) (fun j hj => by rw [hb j hj]; rfl)] at k
        have : ((3 : Int) + (i : Nat) * 3 - 3) / 3 = (i : Nat) := by trivial
        show Q (.int (((3 : Int) + (i : Nat) * 3 - 3) / 3)) _
        rw [this]
        exact k
      · refine ⟨rfl, ⟨_, rfl⟩, upto hb ?_⟩
        unfold Geo.cornerM
        simpa using e
    · rintro σ H' ⟨rfl, ⟨x, rfl⟩, hb⟩
      rw [find_no (p := fun i => !Geo.cornerM ns i) (fun j hj => by rw [hb j hj]; rfl)] at k
      exact k
theorem ok_wd (F : Fun K "wrong_direction" "wrong_direction" st_wrong_direction f fd) (T : Txt mg) (CD : Cal P w K mg base 1 "is_direction_right" ["line"] (spDir K)) : FnOk P w K mg base CX0 2 f fd ["lines"] (spWD K) := by
  obtain ⟨fC, fdC, GC, mC, kC, bC⟩ := CD.ex
  refine F.ok scWD (fun vs H Q E h => ?_) (fun cdv A outer s H vs Q E hr h => ?_)
  · obtain ⟨v, n, u, rfl, _⟩ := h
    rfl
  · obtain ⟨v, n, u, rfl, ⟨l, xs, rfl, sl, hl, hx⟩, k⟩ := h
    refine ⟨_, pss_cons (ps_for PassesOwn.never rfl (pi_enum rfl T.enum (pa_cons (pv 0) pa_nil))
        (pg_tup rfl (pgs_cons (pg_name (i := 1) scWD.nd rfl (Or.inl rfl)) (pgs_cons (pg_name (i := 2) scWD.nd rfl (Or.inl rfl)) pgs_nil)))
        (pss_one (ps_if (pt_not (pt_val (pe_call GC hr rfl mC kC bC .nil pass0 (pa_cons (pv 2) pa_nil)))) (pss_one (ps_ret (pv 1))) pss_nil)))
      (pss_one (ps_ret pe_non)), ?_⟩
    refine ⟨_, rfl, l, xs, rfl, sl, for_enum (K := K) (a := l) (xs := xs) (fun i σ H' => Same H H' ∧ (∃ x y, σ = [some (.ref l), x, y]) ∧ ∀ j, j < i → Geo.dirM (u j) (u (j + 1)) = true)
      ⟨Same.refl H, ⟨_, _, rfl⟩, fun j hj => by trivial⟩ (fun i σ H' _ ⟨s1, _⟩ => s1.seq sl) ?_ ?_⟩
    · rintro i x σ H' t hi ⟨s1, ⟨y, z, rfl⟩, hb⟩ ht
      have st : Same H (L2.upd H' t (.tup [.int (i : Nat), x])) := Same.upd s1 ht
      have hin : i < n := by rw [← hl]; exact (List.getElem?_eq_some_iff.1 hi).1
      refine ⟨t, _, rfl, SqT.of upd_same, rfl, _, _, rfl, _, _, rfl, rfl, ?_⟩
      refine ⟨_, rfl, _, _, _, rfl, (hx i x hi).mono st, _, rfl, iteB (fun e => ?_) (fun e => ?_)⟩
      · refine ⟨_, rfl, ?_⟩
        have := k _ st
        unfold Geo.fault4 at this
        rw [find_at (p := fun i => !Geo.dirM (u i) (u (i + 1))) hin e (fun j hj => by rw [hb j hj]; rfl)] at this
        exact this
      · exact ⟨st, ⟨_, _, rfl⟩, upto hb (by simpa using e)⟩
    · rintro σ H' ⟨s1, ⟨y, z, rfl⟩, hb⟩
      have := k _ s1
      unfold Geo.fault4 at this
      rw [find_no (p := fun i => !Geo.dirM (u i) (u (i + 1))) (fun j hj => by rw [hb j (by trivial)]; rfl)] at this
      exact this
theorem ok_sc (F : Fun K "straight_corner" "straight_corner" st_straight_corner f fd) (T : Txt mg) (CD : Cal P w K mg base 1 "side" ["a", "b", "p"] (spSide K)) : FnOk P w K mg base CX0 2 f fd ["lines"] (spSC K) := by
  obtain ⟨fC, fdC, GC, mC, kC, bC⟩ := CD.ex
  refine F.ok scSC (fun vs H Q E h => ?_) (fun cdv A outer s H vs Q E hr h => ?_)
  · obtain ⟨v, n, u, rfl, _⟩ := h
    rfl
  · obtain ⟨v, n, u, rfl, ⟨l, xs, rfl, sl, hl, hx⟩, S, k⟩ := h
    refine ⟨_, pss_cons (ps_for PassesOwn.never rfl (pi_enum rfl T.enum (pa_cons (pv 0) pa_nil))
        (pg_tup rfl (pgs_cons (pg_name (i := 1) scSC.nd rfl (Or.inl rfl)) (pgs_cons (pg_name (i := 2) scSC.nd rfl (Or.inl rfl)) pgs_nil)))
        (pss_cons (ps_set (i := 3) scSC.nd rfl (Or.inl rfl) (pe_ix ix_list (pv 0) (pe_op op_mod (pe_op op_add (pv 1) pe_int) (pe_callB call_len_seq (by rfl) T.len PySem.boot_len (pa_cons (pv 0) pa_nil))) (fun _ _ => rfl)))
        (pss_one (ps_if (pt_cmpR op_eq (pe_call GC hr rfl mC kC bC .nil pass0 (pa_cons (pe_ix ix_tup (pv 2) pe_int (fun _ _ => rfl)) (pa_cons (pe_ix ix_tup (pv 2) pe_int (fun _ _ => rfl)) (pa_cons (pe_ix ix_tup (pv 3) pe_int (fun _ _ => rfl)) pa_nil)))) pe_int (nomark _)) (pss_one (ps_ret (pv 1))) pss_nil))))
      (pss_one (ps_ret pe_non)), ?_⟩
    refine ⟨_, rfl, l, xs, rfl, sl, for_enum (K := K) (a := l) (xs := xs) (fun i σ H' => Same H H' ∧ (∃ x y z, σ = [some (.ref l), x, y, z]) ∧ ∀ j, j < i → ¬ Geo.sd (u j) (u (j + 1)) (u (j + 2)) = 0)
      ⟨Same.refl H, ⟨_, _, _, rfl⟩, fun j hj => by trivial⟩ (fun i σ H' _ ⟨s1, _⟩ => s1.seq sl) ?_ ?_⟩
    · rintro i x σ H' t hi ⟨s1, ⟨y, z, z', rfl⟩, hb⟩ ht
      have st : Same H (L2.upd H' t (.tup [.int (i : Nat), x])) := Same.upd s1 ht
      have hin : i < n := by rw [← hl]; exact (List.getElem?_eq_some_iff.1 hi).1
      obtain ⟨l1, va, vb, rfl, q1, pa, pb⟩ := (hx i x hi).mono st
      obtain ⟨x2, g2, L2'⟩ := LinesAt.get (K := K) (l := l) S hl (fun i x h => (hx i x h).mono st) (i + 1)
      obtain ⟨l2, vc, vd, rfl, q2, pc, pd⟩ := L2'
      refine ⟨t, _, rfl, SqT.of upd_same, rfl, _, _, rfl, _, _, rfl, rfl, ?_⟩
      refine ⟨_, rfl, _, rfl, _, _, rfl, rfl, _, rfl, _, _, rfl, .inl (st.seq sl), _, _, rfl, rfl, (by rw [hl]; have := S.n1; trivial), _, _, _, _, rfl, rfl, st.seq sl, g2, ?_⟩
      refine ⟨_, rfl, _, _, _, _, rfl, rfl, q1, at0 rfl, _, rfl, _, _, _, _, rfl, rfl, q1, at1 rfl, _, rfl, _, _, _, _, rfl, rfl, q2, at1 rfl, ?_⟩
      refine ⟨_, _, _, u i, u (i + 1), u (i + 1 + 1), rfl, pa, pb, pd, ⟨S.bt _, S.bt _, S.bt _⟩, rfl, _, rfl, iteB (fun e => ?_) (fun e => ?_)⟩
      · refine ⟨_, rfl, ?_⟩
        have := k _ st
        unfold Geo.fault5 at this
        rw [decide_eq_true_eq, L2.V.int.injEq] at e
        rw [find_at (p := fun i => decide (Geo.sd (u i) (u (i + 1)) (u (i + 2)) = 0)) hin (decide_eq_true e) (fun j hj => decide_eq_false (hb j hj))] at this
        exact this
      · rw [decide_eq_false_iff_not, L2.V.int.injEq] at e
        exact ⟨st, ⟨_, _, _, rfl⟩, upto hb e⟩
    · rintro σ H' ⟨s1, ⟨y, z, z', rfl⟩, hb⟩
      have := k _ s1
      unfold Geo.fault5 at this
      rw [find_no (p := fun i => decide (Geo.sd (u i) (u (i + 1)) (u (i + 2)) = 0)) (fun j hj => decide_eq_false (hb j (by trivial)))] at this
      exact this
theorem ok_mf (F : Fun K "meets_far_line" "meets_far_line" st_meets_far_line f fd) (T : Txt mg) (CM : Cal P w K mg base 2 "lines_meet" ["a", "b", "c", "d"] (spMeet K)) : FnOk P w K mg base CX0 3 f fd ["lines", "i"] (spMF K) := by
  obtain ⟨fC, fdC, GC, mC, kC, bC⟩ := CM.ex
  refine F.ok scMF (fun vs H Q E h => ?_) (fun cdv A outer s H vs Q E hr h => ?_)
  · obtain ⟨v, n, u, i, rfl, _⟩ := h
    rfl
  · obtain ⟨v, n, u, i, rfl, ⟨l, xs, rfl, sl, hl, hx⟩, S, hin, k⟩ := h
    have hr2 : Room 2 _ := hr
    refine ⟨_, pss_cons (ps_set (i := 2) scMF.nd rfl (Or.inl rfl) (pe_ix ix_tup (pe_ix ix_list (pv 0) (pv 1) (fun _ _ => rfl)) pe_int (fun _ _ => rfl)))
      (pss_cons (ps_set (i := 3) scMF.nd rfl (Or.inl rfl) (pe_ix ix_tup (pe_ix ix_list (pv 0) (pv 1) (fun _ _ => rfl)) pe_int (fun _ _ => rfl)))
      (pss_cons (ps_for PassesOwn.never rfl (pi_range2 rfl T.range (pa_cons pe_int (pa_cons (pe_op op_sub (pe_callB call_len_seq (by rfl) T.len PySem.boot_len (pa_cons (pv 0) pa_nil)) pe_int) pa_nil)))
        (pg_name (i := 4) scMF.nd rfl (Or.inl rfl))
        (pss_cons (ps_set (i := 5) scMF.nd rfl (Or.inl rfl) (pe_ix ix_list (pv 0) (pe_op op_mod (pe_op op_add (pv 1) (pv 4)) (pe_callB call_len_seq (by rfl) T.len PySem.boot_len (pa_cons (pv 0) pa_nil))) (fun _ _ => rfl)))
        (pss_one (ps_if (pt_val (pe_call GC hr2 rfl mC kC bC .nil pass0 (pa_cons (pv 2) (pa_cons (pv 3) (pa_cons (pe_ix ix_tup (pv 5) pe_int (fun _ _ => rfl)) (pa_cons (pe_ix ix_tup (pv 5) pe_int (fun _ _ => rfl)) pa_nil)))))) (pss_one (ps_ret pe_bl)) pss_nil))))
      (pss_one (ps_ret pe_bl)))), ?_⟩
    have hi : i < xs.length := by trivial
    obtain ⟨x1, g1⟩ : ∃ x, xs[i]? = some x := ⟨_, List.getElem?_eq_getElem hi⟩
    obtain ⟨l1, va, vb, rfl, q1, pa, pb⟩ := hx i x1 g1
    refine ⟨_, rfl, _, rfl, _, _, _, _, rfl, rfl, sl, atI_nat g1, _, _, _, _, rfl, rfl, q1, at0 rfl, ?_⟩
    refine ⟨_, rfl, _, rfl, _, _, _, _, rfl, rfl, sl, atI_nat g1, _, _, _, _, rfl, rfl, q1, at1 rfl, ?_⟩
    have n1 := S.n1
    have n64 := S.n64
    have hK : ((xs.length : Int) - 1 - 2).toNat = n - 3 := by rw [hl]; trivial
    refine ⟨_, rfl, _, _, rfl, .inl sl, _, _, rfl, rfl, 2, (xs.length : Int) - 1, rfl, ⟨by decide, by decide, by trivial, by trivial⟩,
      for_range (fun m σ H' => H' = H ∧ (∃ x y, σ = [some (.ref l), some (.int (i : Nat)), some va, some vb, x, y]) ∧ ∀ j, j < m → ¬ Geo.lm (u i) (u (i + 1)) (u (i + (j + 2))) (u (i + (j + 2) + 1)))
      ⟨rfl, ⟨_, _, rfl⟩, fun j hj => by trivial⟩ ?_ ?_⟩
    · rintro m σ H' hm ⟨rfl, ⟨x, y, rfl⟩, hb⟩
      rw [hK] at hm
      obtain ⟨x2, g2, L2'⟩ := LinesAt.get (K := K) (l := l) S hl hx (i + (m + 2))
      obtain ⟨l2, vc, vd, rfl, q2, pc, pd⟩ := L2'
      have g2' : atI xs (((i : Nat) : Int) + (2 + (m : Nat)) % (xs.length : Int)) = atI xs (((i : Nat) : Int) + (2 + (m : Nat)) % (xs.length : Int)) := rfl
      refine ⟨_, rfl, _, rfl, _, rfl, _, _, rfl, rfl, _, rfl, _, _, rfl, .inl sl, _, _, rfl, rfl, (by rw [hl]; trivial), _, _, _, _, rfl, rfl, sl, (by rw [show ((i : Nat) : Int) + (2 + (m : Nat)) = ((i + (m + 2) : Nat) : Int) by trivial]; exact g2), ?_⟩
      refine ⟨_, rfl, _, rfl, _, rfl, _, _, _, _, rfl, rfl, q2, at0 rfl, _, rfl, _, _, _, _, rfl, rfl, q2, at1 rfl, ?_⟩
      refine ⟨_, _, _, _, _, _, _, _, rfl, pa, pb, pc, pd, ⟨S.bt _, S.bt _, S.bt _, S.bt _⟩, _, rfl, iteB (fun e => ?_) (fun e => ?_)⟩
      · have : Geo.far6 n u i = true := by
          unfold Geo.far6
          exact List.any_eq_true.2 ⟨m, List.mem_range.2 hm, e⟩
        rw [this] at k
        exact k
      · exact ⟨rfl, ⟨_, _, rfl⟩, upto hb (by simpa using e)⟩
    · rintro σ H' ⟨rfl, ⟨x, y, rfl⟩, hb⟩
      rw [hK] at hb
      have : Geo.far6 n u i = false := by
        unfold Geo.far6
        exact List.any_eq_false.2 fun m hm h => hb m (List.mem_range.1 hm) (by simpa using h)
      rw [this] at k
      exact k
theorem ok_cl (F : Fun K "crossed_line" "crossed_line" st_crossed_line f fd) (T : Txt mg) (CM : Cal P w K mg base 3 "meets_far_line" ["lines", "i"] (spMF K)) : FnOk P w K mg base CX0 4 f fd ["lines"] (spCL K) := by
  obtain ⟨fC, fdC, GC, mC, kC, bC⟩ := CM.ex
  refine F.ok scCL (fun vs H Q E h => ?_) (fun cdv A outer s H vs Q E hr h => ?_)
  · obtain ⟨v, n, u, rfl, _⟩ := h
    rfl
  · obtain ⟨v, n, u, rfl, ⟨l, xs, rfl, sl, hl, hx⟩, S, k⟩ := h
    refine ⟨_, pss_cons (ps_for PassesOwn.never rfl (pi_range1 rfl T.range (pa_cons (pe_callB call_len_seq (by rfl) T.len PySem.boot_len (pa_cons (pv 0) pa_nil)) pa_nil))
        (pg_name (i := 1) scCL.nd rfl (Or.inl rfl))
        (pss_one (ps_if (pt_val (pe_call GC hr rfl mC kC bC .nil pass0 (pa_cons (pv 0) (pa_cons (pv 1) pa_nil)))) (pss_one (ps_ret (pv 1))) pss_nil)))
      (pss_one (ps_ret pe_non)), ?_⟩
    have n64 := S.n64
    refine ⟨_, rfl, _, _, rfl, .inl sl, (xs.length : Int), rfl, by trivial, by trivial,
      for_range (fun m σ H' => H' = H ∧ (∃ x, σ = [some (.ref l), x]) ∧ ∀ j, j < m → Geo.far6 n u j = false)
      ⟨rfl, ⟨_, rfl⟩, fun j hj => by trivial⟩ ?_ ?_⟩
    · rintro m σ H' hm ⟨rfl, ⟨x, rfl⟩, hb⟩
      have hm' : m < n := by trivial
      refine ⟨_, rfl, _, rfl, _, n, u, m, (by rw [Int.zero_add]; all_goals rfl), ⟨l, xs, rfl, sl, hl, hx⟩, S, hm', _, rfl, iteB (fun e => ?_) (fun e => ?_)⟩
      · refine ⟨_, rfl, ?_⟩
        unfold Geo.fault6 at k
        rw [find_at (p := Geo.far6 n u) hm' e hb] at k
        rw [Int.zero_add]
        exact k
      · exact ⟨rfl, ⟨_, rfl⟩, upto hb e⟩
    · rintro σ H' ⟨rfl, ⟨x, rfl⟩, hb⟩
      unfold Geo.fault6 at k
      rw [find_no (p := Geo.far6 n u) (fun j hj => hb j (by trivial))] at k
      exact k
theorem ok_rl (F : Fun K "is_room_left" "is_room_left" st_is_room_left f fd) (T : Txt mg) : FnOk P w K mg base CX0 1 f fd ["lines"] (spRL K) := by
  refine F.ok scRL (fun vs H Q E h => ?_) (fun cdv A outer s H vs Q E hr h => ?_)
  · obtain ⟨v, n, u, rfl, _⟩ := h
    rfl
  · obtain ⟨v, n, u, rfl, ⟨l, xs, rfl, sl, hl, hx⟩, S, k⟩ := h
    refine ⟨_, pss_one (ps_ret (pe_cmpR op_gt (pe_callB (cr_sum rfl) (by rfl) T.sum boot_sum (pa_cons
      (pe_lc (own := [("a", 1), ("b", 2)]) rfl scRL.nd (pi_list (pv 0)) (blkOk_by blkRL)
        (fun _ _ _ _ _ => pgt (K := K) (n := 2) rfl rfl (pgs_cons (pg_name (i := 1) scRL.nd rfl (Or.inl rfl)) (pgs_cons (pg_name (i := 2) scRL.nd rfl (Or.inl rfl)) pgs_nil)))
        (fun _ _ _ _ _ => pts_nil)
        (fun _ _ _ _ _ => pe_op op_sub (pe_op op_mulB (pe_ix (ixt (K := K) rfl) (pv 1) pe_int (fun _ _ => rfl)) (pe_ix (ixt (K := K) rfl) (pv 2) pe_int (fun _ _ => rfl)))
          (pe_op op_mulB (pe_ix (ixt (K := K) rfl) (pv 2) pe_int (fun _ _ => rfl)) (pe_ix (ixt (K := K) rfl) (pv 1) pe_int (fun _ _ => rfl))))) pa_nil)) pe_int (nomark _))), ?_⟩
    have n64 := S.n64
    refine ⟨_, rfl, l, rfl, ⟨_, sl⟩, fun D hD => lc_list (K := K) (a := l) (xs := xs) (fun i H' => Same H H' ∧ H' D = some (.lst (((List.range i).map (arT u)).map L2.V.int))) ?_ (fun i H' _ ⟨s1, _⟩ => s1.seq sl) ?_ ?_⟩
    · exact ⟨Same.set hD (Same.refl H), upd_same⟩
    · rintro i x H' hi ⟨s1, hacc⟩
      have hin : i < n := by rw [← hl]; exact (List.getElem?_eq_some_iff.1 hi).1
      obtain ⟨l1, va, vb, rfl, q1, ⟨pa, xa, rfl, sa, a0, a1⟩, ⟨pb, xb, rfl, sb, b0, b1⟩⟩ := (hx i x hi).mono s1
      have ba := S.bt i
      have bb := S.bt (i + 1)
      have big : ∀ {z : Int}, ib z ≤ 100000 → ib z ≤ 1000000 := fun h => Nat.le_trans h (by decide)
      refine ⟨l1, _, rfl, q1, rfl, _, _, rfl, _, _, rfl, rfl, rfl, ?_⟩
      refine ⟨_, rfl, _, _, _, _, rfl, rfl, sa, at0 a0, _, rfl, _, _, _, _, rfl, rfl, sb, at1 b1, _, _, rfl, rfl, ⟨big ba.x, big bb.y⟩, ?_⟩
      refine ⟨_, rfl, _, _, _, _, rfl, rfl, sb, at0 b0, _, rfl, _, _, _, _, rfl, rfl, sa, at1 a1, _, _, rfl, rfl, ⟨big bb.x, big ba.y⟩, ?_⟩
      refine ⟨_, _, rfl, rfl, _, hacc, ?_, Same.set hD s1, ?_⟩
      · rw [List.length_map, List.length_map, List.length_range]
        exact Nat.lt_of_lt_of_le (show i < 64 by trivial) (by decide)
      · rw [upd_same, List.range_succ, List.map_append, List.map_append]
        rfl
    · rintro H' ⟨s1, hacc⟩
      refine ⟨D, _, rfl, SqL.of hacc, _, _, rfl, rfl, ?_⟩
      have := k _ s1
      unfold Geo.areaM at this
      rw [hl]
      exact this
theorem ok_lf (F : Fun K "lines_fault" "lines_fault" st_lines_fault f fd) (C4 : Cal P w K mg base 2 "wrong_direction" ["lines"] (spWD K)) (C5 : Cal P w K mg base 2 "straight_corner" ["lines"] (spSC K))
    (C6 : Cal P w K mg base 4 "crossed_line" ["lines"] (spCL K)) (C7 : Cal P w K mg base 1 "is_room_left" ["lines"] (spRL K)) : FnOk P w K mg base CX0 5 f fd ["lines"] (spLF K) := by
  obtain ⟨f4, fd4, G4, m4, k4, b4⟩ := C4.ex
  obtain ⟨f5, fd5, G5, m5, k5, b5⟩ := C5.ex
  obtain ⟨f6, fd6, G6, m6, k6, b6⟩ := C6.ex
  obtain ⟨f7, fd7, G7, m7, k7, b7⟩ := C7.ex
  refine F.ok scLF (fun vs H Q E h => ?_) (fun cdv A outer s H vs Q E hr h => ?_)
  · obtain ⟨v, n, u, rfl, _⟩ := h
    rfl
  · obtain ⟨v, n, u, rfl, hL, S, k⟩ := h
    refine ⟨_, pss_cons (ps_set (i := 1) scLF.nd rfl (Or.inl rfl) (pe_call G4 (hr.mono (by decide)) rfl m4 k4 b4 .nil pass0 (pa_cons (pv 0) pa_nil)))
      (pss_cons (ps_if (pt_cmpR op_notN (pv 1) pe_non (nomark _)) (pss_one (ps_ret (pe_tup (pa_cons pe_int (pa_cons (pv 1) pa_nil))))) pss_nil)
      (pss_cons (ps_set (i := 1) scLF.nd rfl (Or.inl rfl) (pe_call G5 (hr.mono (by decide)) rfl m5 k5 b5 .nil pass0 (pa_cons (pv 0) pa_nil)))
      (pss_cons (ps_if (pt_cmpR op_notN (pv 1) pe_non (nomark _)) (pss_one (ps_ret (pe_tup (pa_cons pe_int (pa_cons (pv 1) pa_nil))))) pss_nil)
      (pss_cons (ps_set (i := 1) scLF.nd rfl (Or.inl rfl) (pe_call G6 hr rfl m6 k6 b6 .nil pass0 (pa_cons (pv 0) pa_nil)))
      (pss_cons (ps_if (pt_cmpR op_notN (pv 1) pe_non (nomark _)) (pss_one (ps_ret (pe_tup (pa_cons pe_int (pa_cons (pv 1) pa_nil))))) pss_nil)
      (pss_cons (ps_if (pt_not (pt_val (pe_call G7 (hr.mono (by decide)) rfl m7 k7 b7 .nil pass0 (pa_cons (pv 0) pa_nil)))) (pss_one (ps_ret (pe_tup (pa_cons pe_int (pa_cons pe_int pa_nil))))) pss_nil)
      (pss_one (ps_ret pe_non)))))))), ?_⟩
    unfold Geo.linesFault at k
    refine ⟨_, rfl, v, n, u, rfl, hL, fun H1 s1 => ?_⟩
    refine ⟨_, rfl, rfl, _, rfl, ?_⟩
    cases e4 : Geo.fault4 n u with
    | some i =>
      rw [oV_some, if_pos rfl]
      rw [e4] at k
      refine ⟨_, rfl, (by show 2 ≤ sizeLine; decide), fun t ht => k _ _ (Same.upd s1 ht) ⟨t, rfl, SqT.of upd_same⟩⟩
    | none =>
      rw [oV_none]
      rw [e4] at k
      refine iteF ?_
      refine ⟨_, rfl, v, n, u, rfl, hL.mono s1, S, fun H2 s2 => ?_⟩
      refine ⟨_, rfl, rfl, _, rfl, ?_⟩
      cases e5 : Geo.fault5 n u with
      | some i =>
        rw [oV_some, if_pos rfl]
        rw [e5] at k
        refine ⟨_, rfl, (by show 2 ≤ sizeLine; decide), fun t ht => k _ _ (Same.upd (s1.trans s2) ht) ⟨t, rfl, SqT.of upd_same⟩⟩
      | none =>
        rw [oV_none]
        rw [e5] at k
        refine iteF ?_
        refine ⟨_, rfl, v, n, u, rfl, (hL.mono s1).mono s2, S, ?_⟩
        refine ⟨_, rfl, rfl, _, rfl, ?_⟩
        cases e6 : Geo.fault6 n u with
        | some i =>
          rw [oV_some, if_pos rfl]
          rw [e6] at k
          refine ⟨_, rfl, (by show 2 ≤ sizeLine; decide), fun t ht => k _ _ (Same.upd (s1.trans s2) ht) ⟨t, rfl, SqT.of upd_same⟩⟩
        | none =>
          rw [oV_none]
          rw [e6] at k
          refine iteF ?_
          refine ⟨_, rfl, v, n, u, rfl, (hL.mono s1).mono s2, S, fun H3 s3 => ?_⟩
          refine ⟨_, rfl, iteB (fun e => ?_) (fun e => ?_)⟩
          · rw [Bool.not_eq_true', decide_eq_false_iff_not] at e
            simp only [if_pos (show Geo.areaM n u ≤ 0 by trivial)] at k
            refine ⟨(by show 2 ≤ sizeLine; decide), fun t ht => k _ _ (Same.upd ((s1.trans s2).trans s3) ht) ⟨t, rfl, SqT.of upd_same⟩⟩
          · rw [Bool.not_eq_false', decide_eq_true_eq] at e
            simp only [if_neg (show ¬ Geo.areaM n u ≤ 0 by trivial)] at k
            exact k _ _ ((s1.trans s2).trans s3) rfl
theorem ok_rf (F : Fun K "room_fault" "room_fault" st_room_fault f fd) (C1 : Cal P w K mg base 1 "is_length_right" ["room"] (spLen K)) (C2 : Cal P w K mg base 2 "is_head_right" ["room"] (spHead K))
    (C3 : Cal P w K mg base 3 "wrong_corner" ["room"] (spWC K)) (C4 : Cal P w K mg base 5 "lines_fault" ["lines"] (spLF K)) (C5 : Cal P w K mg base 2 "lines_of" ["room"] (spLines K)) : FnOk P w K mg base CX0 6 f fd ["room"] (spRF K) := by
  obtain ⟨f1, fd1, G1, m1, k1, b1⟩ := C1.ex
  obtain ⟨f2, fd2, G2, m2, k2, b2⟩ := C2.ex
  obtain ⟨f3, fd3, G3, m3, k3, b3⟩ := C3.ex
  obtain ⟨f4, fd4, G4, m4, k4, b4⟩ := C4.ex
  obtain ⟨f5, fd5, G5, m5, k5, b5⟩ := C5.ex
  refine F.ok scRF (fun vs H Q E h => ?_) (fun cdv A outer s H vs Q E hr h => ?_)
  · obtain ⟨v, ns, rfl, _⟩ := h
    rfl
  · obtain ⟨v, ns, rfl, hR, k⟩ := h
    refine ⟨_, pss_cons (ps_if (pt_not (pt_val (pe_call G1 (hr.mono (by decide)) rfl m1 k1 b1 .nil pass0 (pa_cons (pv 0) pa_nil)))) (pss_one (ps_ret (pe_tup (pa_cons pe_int (pa_cons pe_int pa_nil))))) pss_nil)
      (pss_cons (ps_if (pt_not (pt_val (pe_call G2 (hr.mono (by decide)) rfl m2 k2 b2 .nil pass0 (pa_cons (pv 0) pa_nil)))) (pss_one (ps_ret (pe_tup (pa_cons pe_int (pa_cons pe_int pa_nil))))) pss_nil)
      (pss_cons (ps_set (i := 1) scRF.nd rfl (Or.inl rfl) (pe_call G3 (hr.mono (by decide)) rfl m3 k3 b3 .nil pass0 (pa_cons (pv 0) pa_nil)))
      (pss_cons (ps_if (pt_cmpR op_notN (pv 1) pe_non (nomark _)) (pss_one (ps_ret (pe_tup (pa_cons pe_int (pa_cons (pv 1) pa_nil))))) pss_nil)
      (pss_one (ps_ret (pe_call G4 hr rfl m4 k4 b4 .nil pass0 (pa_cons (pe_call G5 (hr.mono (by decide)) rfl m5 k5 b5 .nil pass0 (pa_cons (pv 0) pa_nil)) pa_nil))))))), ?_⟩
    unfold Geo.roomFault at k
    refine ⟨_, rfl, v, ns, rfl, hR, _, rfl, iteB (fun e1 => ?_) (fun e1 => ?_)⟩
    · rw [Bool.not_eq_true'] at e1
      rw [if_pos e1] at k
      refine ⟨(by show 2 ≤ sizeLine; decide), fun t ht => k _ _ (Same.upd (Same.refl H) ht) ⟨t, rfl, SqT.of upd_same⟩⟩
    · rw [Bool.not_eq_false'] at e1
      rw [if_neg (by rw [e1]; simp)] at k
      obtain ⟨hn, h3, h64⟩ := len_of e1
      refine ⟨_, rfl, v, ns, rfl, hR, by trivial, _, rfl, iteB (fun e2 => ?_) (fun e2 => ?_)⟩
      · rw [Bool.not_eq_true'] at e2
        rw [if_pos e2] at k
        refine ⟨(by show 2 ≤ sizeLine; decide), fun t ht => k _ _ (Same.upd (Same.refl H) ht) ⟨t, rfl, SqT.of upd_same⟩⟩
      · rw [Bool.not_eq_false'] at e2
        rw [if_neg (by rw [e2]; simp)] at k
        refine ⟨_, rfl, v, ns, Geo.cn ns, rfl, hR, hn, h64, ?_⟩
        refine ⟨_, rfl, rfl, _, rfl, ?_⟩
        cases e3 : (List.range (Geo.cn ns)).find? fun i => !Geo.cornerM ns i with
        | some i =>
          rw [oV_some, if_pos rfl]
          rw [e3] at k
          refine ⟨_, rfl, (by show 2 ≤ sizeLine; decide), fun t ht => k _ _ (Same.upd (Same.refl H) ht) ⟨t, rfl, SqT.of upd_same⟩⟩
        | none =>
          rw [oV_none]
          rw [e3] at k
          refine iteF ?_
          refine ⟨_, rfl, v, ns, Geo.cn ns, rfl, hR, hn, by trivial, h64, fun H1 x s1 hL => ?_⟩
          have S := small_of (ns := ns) rfl (by trivial) h64 (fun i hi => by have := Geo.find_none e3 i hi; simpa using this)
          exact ⟨x, _, _, rfl, hL, S, fun H2 y s2 hF => k H2 y (s1.trans s2) hF⟩
theorem ok_wi (F : Fun K "is_within" "is_within" st_is_within f fd) (CM : Cal P w K mg base 2 "lines_meet" ["a", "b", "c", "d"] (spMeet K)) (CD : Cal P w K mg base 1 "side" ["a", "b", "p"] (spSide K)) :
    FnOk P w K mg base CX0 3 f fd ["p", "lines"] (spWi K) := by
  obtain ⟨fM, fdM, GM, mM, kM, bM⟩ := CM.ex
  obtain ⟨fD, fdD, GD, mD, kD, bD⟩ := CD.ex
  refine F.ok scWi (fun vs H Q E h => ?_) (fun cdv A outer s H vs Q E hr h => ?_)
  · obtain ⟨vp, vl, p, n, u, rfl, _⟩ := h
    rfl
  · obtain ⟨vp, vl, p, n, u, rfl, pp, bp, ⟨l, xs, rfl, sl, hl, hx⟩, S, k⟩ := h
    have hr1 : Room 1 _ := hr.mono (by decide)
    refine ⟨_, pss_cons (ps_set (i := 2) scWi.nd rfl (Or.inl rfl) pe_int)
      (pss_cons (ps_for PassesOwn.never rfl (pi_list (pv 1)) (pg_tup rfl (pgs_cons (pg_name (i := 3) scWi.nd rfl (Or.inl rfl)) (pgs_cons (pg_name (i := 4) scWi.nd rfl (Or.inl rfl)) pgs_nil)))
        (pss_cons (ps_if (pt_val (pe_call GM hr rfl mM kM bM .nil pass0 (pa_cons (pv 0) (pa_cons (pv 0) (pa_cons (pv 3) (pa_cons (pv 4) pa_nil)))))) (pss_one (ps_ret pe_bl)) pss_nil)
        (pss_cons (ps_if (PW.pt (pw_and (pt_chain op_le op_lt (pe_ix ix_tup (pv 3) pe_int (fun _ _ => rfl)) (pe_ix ix_tup (pv 0) pe_int (fun _ _ => rfl)) (pe_ix ix_tup (pv 4) pe_int (fun _ _ => rfl)))
            (pw_and1 (pt_cmpR op_gt (pe_call GD hr1 rfl mD kD bD .nil pass0 (pa_cons (pv 3) (pa_cons (pv 4) (pa_cons (pv 0) pa_nil)))) pe_int (nomark _)))))
          (pss_one (ps_aug (i := 2) scWi.nd rfl (Or.inl rfl) pe_int ip_add)) pss_nil)
        (pss_one (ps_if (PW.pt (pw_and (pt_chain op_le op_lt (pe_ix ix_tup (pv 4) pe_int (fun _ _ => rfl)) (pe_ix ix_tup (pv 0) pe_int (fun _ _ => rfl)) (pe_ix ix_tup (pv 3) pe_int (fun _ _ => rfl)))
            (pw_and1 (pt_cmpR op_lt (pe_call GD hr1 rfl mD kD bD .nil pass0 (pa_cons (pv 3) (pa_cons (pv 4) (pa_cons (pv 0) pa_nil)))) pe_int (nomark _)))))
          (pss_one (ps_aug (i := 2) scWi.nd rfl (Or.inl rfl) pe_int ip_sub)) pss_nil)))))
      (pss_one (ps_ret (pe_cmpR op_ne (pv 2) pe_int (nomark _))))), ?_⟩
    refine ⟨_, rfl, l, rfl, ⟨_, sl⟩, for_list (K := K) (a := l) (xs := xs) (fun i σ H' => H' = H ∧ (∃ x y, σ = [some vp, some (.ref l), some (.int (Geo.sumN i (fun j => Geo.sg (u j) (u (j + 1)) p))), x, y]) ∧ ∀ j, j < i → ¬ Geo.lm p p (u j) (u (j + 1)))
      ⟨rfl, ⟨_, _, rfl⟩, fun j hj => by trivial⟩ (fun i σ H' _ ⟨e, _⟩ => by rw [e]; exact sl) ?_ ?_⟩
    · rintro i x σ H' hi ⟨rfl, ⟨y, z, rfl⟩, hb⟩
      have hin : i < n := by rw [← hl]; exact (List.getElem?_eq_some_iff.1 hi).1
      obtain ⟨l1, va, vb, rfl, q1, pa, pb⟩ := hx i x hi
      have ba := S.bt i
      have bb := S.bt (i + 1)
      refine ⟨l1, _, rfl, q1, rfl, _, _, rfl, _, _, rfl, rfl, ?_⟩
      refine ⟨_, rfl, _, rfl, _, rfl, _, rfl, _, _, _, _, _, _, _, _, rfl, pp, pp, pa, pb, ⟨bp, bp, ba, bb⟩, _, rfl, iteB (fun e0 => ?_) (fun e0 => ?_)⟩
      · have : Geo.withinM n u p = false := by
          unfold Geo.withinM
          rw [Bool.and_eq_false_iff]
          left
          rw [List.all_eq_false]
          exact ⟨i, List.mem_range.2 hin, by rw [e0]; simp⟩
        rw [this] at k
        exact k
      · rw [decide_eq_false_iff_not] at e0
        have hsg := sg_bool (u i) (u (i + 1)) p
        refine rd_wind (cmp := fun i j => decide (j < i)) rfl rfl rfl rfl rfl pa pp pb pa pb ba bb bp ?_
        refine iteB (fun e1 => ?_) (fun e1 => ?_)
        · rw [if_pos e1] at hsg
          refine ⟨_, rfl, _, _, rfl, rfl, ?_⟩
          refine rd_wind (cmp := fun i j => decide (i < j)) rfl rfl rfl rfl rfl pb pp pa pa pb ba bb bp ?_
          refine iteB (fun e2 => ?_) (fun e2 => ?_)
          · rw [if_pos e2] at hsg
            refine ⟨_, rfl, _, _, rfl, rfl, rfl, ⟨some va, some vb, ?_⟩, upto hb e0⟩
            have e : Geo.sumN i (fun j => Geo.sg (u j) (u (j + 1)) p) + 1 - 1 = Geo.sumN (i + 1) (fun j => Geo.sg (u j) (u (j + 1)) p) := by
              simp only [Geo.sumN]; trivial
            rw [← e]; rfl
          · rw [if_neg (by rw [e2]; simp)] at hsg
            refine ⟨rfl, ⟨some va, some vb, ?_⟩, upto hb e0⟩
            have e : Geo.sumN i (fun j => Geo.sg (u j) (u (j + 1)) p) + 1 = Geo.sumN (i + 1) (fun j => Geo.sg (u j) (u (j + 1)) p) := by
              simp only [Geo.sumN]; trivial
            rw [← e]; rfl
        · rw [if_neg (by rw [e1]; simp)] at hsg
          refine rd_wind (cmp := fun i j => decide (i < j)) rfl rfl rfl rfl rfl pb pp pa pa pb ba bb bp ?_
          refine iteB (fun e2 => ?_) (fun e2 => ?_)
          · rw [if_pos e2] at hsg
            refine ⟨_, rfl, _, _, rfl, rfl, rfl, ⟨some va, some vb, ?_⟩, upto hb e0⟩
            have e : Geo.sumN i (fun j => Geo.sg (u j) (u (j + 1)) p) - 1 = Geo.sumN (i + 1) (fun j => Geo.sg (u j) (u (j + 1)) p) := by
              simp only [Geo.sumN]; trivial
            rw [← e]; rfl
          · rw [if_neg (by rw [e2]; simp)] at hsg
            refine ⟨rfl, ⟨some va, some vb, ?_⟩, upto hb e0⟩
            have e : Geo.sumN i (fun j => Geo.sg (u j) (u (j + 1)) p) = Geo.sumN (i + 1) (fun j => Geo.sg (u j) (u (j + 1)) p) := by
              simp only [Geo.sumN]; trivial
            rw [← e]; rfl
    · rintro σ H' ⟨rfl, ⟨y, z, rfl⟩, hb⟩
      refine ⟨_, rfl, rfl, ?_⟩
      have e : Geo.withinM n u p = (!decide (L2.V.int (Geo.sumN xs.length (fun j => Geo.sg (u j) (u (j + 1)) p)) = L2.V.int 0)) := by
        unfold Geo.withinM
        rw [List.all_eq_true.2 (fun j hj => by rw [decide_eq_false (hb j (by rw [hl]; exact List.mem_range.1 hj))]; rfl), Bool.true_and]
        apply Geo.bool_ext
        rw [decide_eq_true_eq, Bool.not_eq_true', decide_eq_false_iff_not, L2.V.int.injEq, hl]
        rfl
      rw [e] at k
      exact k
theorem ok_in (F : Fun K "is_inside" "is_inside" st_is_inside f fd) (CW : Cal P w K mg base 3 "is_within" ["p", "lines"] (spWi K)) : FnOk P w K mg base CX0 4 f fd ["p", "height", "lines"] (spIn K) := by
  obtain ⟨fW, fdW, GW, mW, kW, bW⟩ := CW.ex
  refine F.ok scIn (fun vs H Q E h => ?_) (fun cdv A outer s H vs Q E hr h => ?_)
  · obtain ⟨vp, vl, p, z, h, n, u, rfl, _⟩ := h
    rfl
  · obtain ⟨vp, vl, p, z, h, n, u, rfl, pp, ⟨xz, yz, rfl, sz, z2⟩, bp, hL, S, k⟩ := h
    refine ⟨_, pss_one (ps_ret (pe_and (pe_chain op_lt op_lt pe_int (pe_ix ix_tup (pv 0) pe_int (fun _ _ => rfl)) (pv 1)) (pe_one (pe_call GW hr rfl mW kW bW .nil pass0 (pa_cons (pv 0) (pa_cons (pv 2) pa_nil)))))), ?_⟩
    unfold Geo.insideM at k
    refine ⟨_, rfl, _, _, _, _, rfl, rfl, sz, at2 z2, _, _, rfl, rfl, _, rfl, iteB (fun e1 => ?_) (fun e1 => ?_)⟩
    · refine ⟨_, rfl, _, _, rfl, rfl, _, rfl, iteB (fun e2 => ?_) (fun e2 => ?_)⟩
      · rw [e1, e2, Bool.true_and, Bool.true_and] at k
        exact ⟨_, rfl, _, rfl, _, _, _, _, _, rfl, pp, bp, hL, S, k⟩
      · rw [e1, e2, Bool.true_and, Bool.false_and] at k
        exact k
    · rw [e1, Bool.false_and, Bool.false_and] at k
      exact ⟨_, rfl, iteF k⟩
theorem ok_cr (F : Fun K "is_clear" "is_clear" st_is_clear f fd) (CM : Cal P w K mg base 2 "lines_meet" ["a", "b", "c", "d"] (spMeet K)) : FnOk P w K mg base CX0 3 f fd ["p", "q", "lines"] (spCr K) := by
  obtain ⟨fM, fdM, GM, mM, kM, bM⟩ := CM.ex
  refine F.ok scCr (fun vs H Q E h => ?_) (fun cdv A outer s H vs Q E hr h => ?_)
  · obtain ⟨vp, vq, vl, p, q, n, u, rfl, _⟩ := h
    rfl
  · obtain ⟨vp, vq, vl, p, q, n, u, rfl, pp, pq, bp, bq, ⟨l, xs, rfl, sl, hl, hx⟩, S, k⟩ := h
    refine ⟨_, pss_cons (ps_for PassesOwn.never rfl (pi_list (pv 2)) (pg_tup rfl (pgs_cons (pg_name (i := 3) scCr.nd rfl (Or.inl rfl)) (pgs_cons (pg_name (i := 4) scCr.nd rfl (Or.inl rfl)) pgs_nil)))
        (pss_one (ps_if (pt_val (pe_call GM hr rfl mM kM bM .nil pass0 (pa_cons (pv 0) (pa_cons (pv 1) (pa_cons (pv 3) (pa_cons (pv 4) pa_nil)))))) (pss_one (ps_ret pe_bl)) pss_nil)))
      (pss_one (ps_ret pe_bl)), ?_⟩
    refine ⟨_, rfl, l, rfl, ⟨_, sl⟩, for_list (K := K) (a := l) (xs := xs) (fun i σ H' => H' = H ∧ (∃ x y, σ = [some vp, some vq, some (.ref l), x, y]) ∧ ∀ j, j < i → ¬ Geo.lm p q (u j) (u (j + 1)))
      ⟨rfl, ⟨_, _, rfl⟩, fun j hj => by trivial⟩ (fun i σ H' _ ⟨e, _⟩ => by rw [e]; exact sl) ?_ ?_⟩
    · rintro i x σ H' hi ⟨rfl, ⟨y, z, rfl⟩, hb⟩
      have hin : i < n := by rw [← hl]; exact (List.getElem?_eq_some_iff.1 hi).1
      obtain ⟨l1, va, vb, rfl, q1, pa, pb⟩ := hx i x hi
      refine ⟨l1, _, rfl, q1, rfl, _, _, rfl, _, _, rfl, rfl, ?_⟩
      refine ⟨_, rfl, _, rfl, _, rfl, _, rfl, _, _, _, _, _, _, _, _, rfl, pp, pq, pa, pb, ⟨bp, bq, S.bt i, S.bt (i + 1)⟩, _, rfl, iteB (fun e0 => ?_) (fun e0 => ?_)⟩
      · have : Geo.clearM n u p q = false := by
          unfold Geo.clearM
          rw [List.all_eq_false]
          exact ⟨i, List.mem_range.2 hin, by rw [e0]; simp⟩
        rw [this] at k
        exact k
      · rw [decide_eq_false_iff_not] at e0
        exact ⟨rfl, ⟨_, _, rfl⟩, upto hb e0⟩
    · rintro σ H' ⟨rfl, ⟨y, z, rfl⟩, hb⟩
      have : Geo.clearM n u p q = true := by
        unfold Geo.clearM
        exact List.all_eq_true.2 (fun j hj => by rw [decide_eq_false (hb j (by rw [hl]; exact List.mem_range.1 hj))]; rfl)
      rw [this] at k
      exact k
theorem ok_bf (F : Fun K "book_fault" "book_fault" st_book_fault f fd) (T : Txt mg) (TB : TxtB mg) : FnOk P w K mg base CX0 1 f fd ["book"] (spBf K) := by
  obtain ⟨t1, m1⟩ := TB.numbers
  obtain ⟨t2, m2⟩ := TB.whole
  refine F.ok scBf (fun vs H Q E h => ?_) (fun cdv A outer s0 H vs Q E hr h => ?_)
  · obtain ⟨v, bs, rfl, _⟩ := h
    rfl
  · obtain ⟨v, bs, rfl, ⟨l, rfl, sl⟩, k⟩ := h
    refine ⟨_, pss_cons (ps_if (pt_cmpR op_ne (pe_callB call_len_seq (by rfl) T.len PySem.boot_len (pa_cons (pv 0) pa_nil)) (pe_glob (v := .int 36) rfl m1 ⟨_, rfl⟩) (nomark _)) (pss_one (ps_ret (pe_callB call_len_seq (by rfl) T.len PySem.boot_len (pa_cons (pv 0) pa_nil)))) pss_nil)
      (pss_cons (ps_for PassesOwn.never rfl (pi_enum rfl T.enum (pa_cons (pv 0) pa_nil)) (pg_tup rfl (pgs_cons (pg_name (i := 1) scBf.nd rfl (Or.inl rfl)) (pgs_cons (pg_name (i := 2) scBf.nd rfl (Or.inl rfl)) pgs_nil)))
        (pss_one (ps_if (pt_cmpR op_gt (pv 2) (pe_glob (v := .int 32768) rfl m2 ⟨_, rfl⟩) (nomark _)) (pss_one (ps_ret (pv 1))) pss_nil)))
      (pss_one (ps_ret pe_non))), ?_⟩
    have hl : (bs.map L2.V.int).length = bs.length := List.length_map ..
    refine ⟨_, rfl, l, _, rfl, .inl sl, rfl, _, rfl, ?_⟩
    rw [hl]
    by_cases h36 : bs.length = 36
    · rw [decide_eq_true (show L2.V.int (bs.length : Int) = L2.V.int 36 by rw [h36]; rfl)]
      refine iteF ?_
      have hB : bookM bs = (List.range bs.length).find? (fun i => decide (32768 < bs.getD i 0)) := by unfold bookM; rw [if_pos h36]
      rw [hB] at k
      refine ⟨_, rfl, l, _, rfl, sl, for_enum (K := K) (a := l) (xs := bs.map L2.V.int) (fun i σ H' => Same H H' ∧ (∃ x y, σ = [some (.ref l), x, y]) ∧ ∀ j, j < i → decide (32768 < bs.getD j 0) = false) ⟨Same.refl _, ⟨_, _, rfl⟩, fun j hj => by trivial⟩ (fun i σ H' _ ⟨e, _⟩ => e.seq sl) ?_ ?_⟩
      · rintro i x σ H' TT hi ⟨e1, ⟨y1, y2, rfl⟩, hb⟩ hT
        have hin : i < bs.length := by have := (List.getElem?_eq_some_iff.1 hi).1; rwa [hl] at this
        rw [room_at hin] at hi
        cases hi
        have e2 := Same.upd e1 hT (o := .tup [.int (i : Nat), .int (bs.getD i 0)])
        refine ⟨TT, _, rfl, SqT.of upd_same, rfl, _, _, rfl, _, _, rfl, rfl, ?_⟩
        refine ⟨_, rfl, _, _, rfl, rfl, _, rfl, iteB (fun e => ?_) (fun e => ?_)⟩
        · refine ⟨_, rfl, ?_⟩
          have kk := k _ e2
          rw [find_at (p := fun i => decide (32768 < bs.getD i 0)) hin e hb] at kk
          exact kk
        · exact ⟨e2, ⟨_, _, rfl⟩, upto hb e⟩
      · rintro σ H' ⟨e1, ⟨y1, y2, rfl⟩, hb⟩
        rw [hl] at hb
        have kk := k _ e1
        rw [find_no (p := fun i => decide (32768 < bs.getD i 0)) hb] at kk
        exact kk
    · rw [decide_eq_false (show ¬ L2.V.int (bs.length : Int) = L2.V.int 36 by intro q; have := L2.V.int.inj q; trivial)]
      refine iteT ?_
      refine ⟨_, rfl, l, _, rfl, .inl sl, ?_⟩
      have hB : bookM bs = some bs.length := by unfold bookM; rw [if_neg h36]
      have kk := k _ (Same.refl _)
      rw [hB] at kk
      rw [hl]
      exact kk
theorem ok_re (F : Fun K "refusal" "refusal" st_refusal f fd) (C1 : Cal P w K mg base 6 "room_fault" ["room"] (spRF K)) (C2 : Cal P w K mg base 1 "book_fault" ["book"] (spBf K))
    (C3 : Cal P w K mg base 2 "lines_of" ["room"] (spLines K)) (C4 : Cal P w K mg base 4 "is_inside" ["p", "height", "lines"] (spIn K)) : FnOk P w K mg base CX0 7 f fd ["s", "is_right", "room", "book"] (spRe K) := by
  obtain ⟨f1, fd1, G1, m1, k1, b1⟩ := C1.ex
  obtain ⟨f2, fd2, G2, m2, k2, b2⟩ := C2.ex
  obtain ⟨f3, fd3, G3, m3, k3, b3⟩ := C3.ex
  obtain ⟨f4, fd4, G4, m4, k4, b4⟩ := C4.ex
  refine F.ok scRe (fun vs H Q E h => ?_) (fun cdv A outer s0 H vs Q E hr h => ?_)
  · obtain ⟨v1, v3, v4, o, right, ns, bk, rfl, _⟩ := h
    rfl
  · obtain ⟨v1, v3, v4, o, right, ns, bk, rfl, hSa, hR, hBk, k⟩ := h
    have hr1 : Room 1 _ := hr.mono (by decide)
    have hr2 : Room 2 _ := hr.mono (by decide)
    have hr4 : Room 4 _ := hr.mono (by decide)
    refine ⟨_, pss_cons (ps_set (i := 4) scRe.nd rfl (Or.inl rfl) (pe_call G1 hr rfl m1 k1 b1 .nil pass0 (pa_cons (pv 2) pa_nil)))
      (pss_cons (ps_if (pt_cmpR op_notN (pv 4) pe_non (nomark _)) (pss_one (ps_ret (pe_lst (pa_cons (pe_un un_neg pe_int) (pa_cons (pe_ix ix_tup (pv 4) pe_int (fun _ _ => rfl)) (pa_cons (pe_ix ix_tup (pv 4) pe_int (fun _ _ => rfl)) pa_nil)))))) pss_nil)
      (pss_cons (ps_if (pt_cmpR op_notN (pv 3) pe_non (nomark _)) (pss_cons (ps_set (i := 5) scRe.nd rfl (Or.inl rfl) (pe_call G2 hr1 rfl m2 k2 b2 .nil pass0 (pa_cons (pv 3) pa_nil)))
          (pss_one (ps_if (pt_cmpR op_notN (pv 5) pe_non (nomark _)) (pss_one (ps_ret (pe_lst (pa_cons (pe_un un_neg pe_int) (pa_cons (pv 5) pa_nil))))) pss_nil))) pss_nil)
      (pss_cons (ps_if (pt_not (pt_val (pv 1))) (pss_one (ps_ret (pe_lst (pa_cons (pe_un un_neg pe_int) pa_nil)))) pss_nil)
      (pss_cons (ps_if (PW.pt (pw_and (pt_cmpR op_notN (pv 0) pe_non (nomark _)) (pw_and1 (pt_not (pt_val (pe_call G4 hr4 rfl m4 k4 b4 .nil pass0 (pa_cons (pv 0) (pa_cons (pe_ix ix_list (pv 2) pe_int (fun _ _ => rfl)) (pa_cons (pe_call G3 hr2 rfl m3 k3 b3 .nil pass0 (pa_cons (pv 2) pa_nil)) pa_nil))))))))) (pss_one (ps_ret (pe_lst (pa_cons (pe_un un_neg pe_int) pa_nil)))) pss_nil)
      (pss_one (ps_ret pe_non)))))), ?_⟩
    refine ⟨_, rfl, v3, ns, rfl, hR, fun H1 xf e1 hF => ?_⟩
    refine ⟨_, rfl, rfl, _, rfl, ?_⟩
    unfold refO at k
    cases ef : Geo.roomFault ns with
    | some g =>
      rw [ef] at hF k
      obtain ⟨t, rfl, st⟩ := hF
      rw [decide_eq_false (show ¬ L2.V.ref t = L2.V.non by intro q; cases q)]
      refine iteT ?_
      refine ⟨_, rfl, _, rfl, _, _, _, _, rfl, rfl, st, at0 rfl, _, rfl, _, _, _, _, rfl, rfl, st, at1 rfl, (by show 3 ≤ sizeLine; decide), fun l hl => ?_⟩
      exact k _ _ (Same.upd e1 hl) ⟨l, rfl, upd_same⟩
    | none =>
      rw [ef] at hF k
      have hF' : xf = .non := hF
      subst hF'
      rw [decide_eq_true (show L2.V.non = L2.V.non from rfl)]
      refine iteF ?_
      obtain ⟨S, hn, h3, h64, _, _⟩ := small_room ef
      have rest : ∀ (H2 : Hp) (y5 : Option L2.V), Same H H2 → bk.bind bookM = none → (tSeq (tIfS (tNot (tB (tVar 1))) (tRet (tLst (tCons (tUn (rU fun i => .int (-i)) (tC (.int 1))) tNil))) tNext)
          (tSeq (tIfS (tAnd (tTest (tOp (fun x y H Q => y = L2.V.non ∧ Q (.bl (!decide (x = L2.V.non))) H) (tVar 0) (tC .non))) (tNot (tB (tCall (spIn K) [] E0 (tCons (tVar 0) (tCons (tOp (rIxL K) (tVar 2) (tC (.int 0))) (tCons (tCall (spLines K) [] E0 (tCons (tVar 2) tNil)) tNil))))))) (tRet (tLst (tCons (tUn (rU fun i => .int (-i)) (tC (.int 3))) tNil))) tNext) (tRet (tC .non))))
          { nx := fun _ H' => Q .non H', rt := Q } [some v1, some (.bl right), some v3, some v4, some .non, y5] H2 := by
        intro H2 y5 e2 hb
        simp only [hb] at k
        refine ⟨_, rfl, _, rfl, iteB (fun er => ?_) (fun er => ?_)⟩
        · rw [Bool.not_eq_true'] at er
          simp only [if_pos er] at k
          exact ⟨_, rfl, (by show 1 ≤ sizeLine; decide), fun l hl => k _ _ (Same.upd e2 hl) ⟨l, rfl, upd_same⟩⟩
        · rw [Bool.not_eq_false'] at er
          simp only [if_neg (show ¬ right = false by rw [er]; simp)] at k
          obtain ⟨lr, rfl, sr⟩ := hR.mono e2
          refine ⟨_, rfl, rfl, _, rfl, ?_⟩
          cases o with
          | none =>
            have hv : v1 = .non := hSa
            subst hv
            rw [decide_eq_true (show L2.V.non = L2.V.non from rfl)]
            refine iteF ?_
            exact iteF (k _ _ e2 rfl)
          | some q =>
            have hSa2 := SAt.mono e2 hSa
            obtain ⟨p1, p2, p3⟩ := hSa2
            have hne : v1 ≠ .non := by
              obtain ⟨a, xs, ea, _⟩ := p1
              rw [ea]; intro q; cases q
            rw [decide_eq_false hne]
            refine iteT ?_
            refine ⟨_, rfl, _, rfl, _, _, _, _, rfl, rfl, sr, at0 (room_at (by trivial)), _, rfl, _, ns, Geo.cn ns, rfl, ⟨lr, rfl, sr⟩, hn, by trivial, h64, fun H3 xl e3 hL => ?_⟩
            refine ⟨_, _, _, _, _, _, _, rfl, p1.mono e3, p2.mono e3, p3, hL, S, _, rfl, iteB (fun ei => ?_) (fun ei => ?_)⟩
            · rw [Bool.not_eq_true'] at ei
              have ei' : insO ns (some q) = false := ei
              simp only [if_pos ei'] at k
              exact ⟨_, rfl, (by show 1 ≤ sizeLine; decide), fun l hl => k _ _ (Same.upd (Same.trans e2 e3) hl) ⟨l, rfl, upd_same⟩⟩
            · rw [Bool.not_eq_false'] at ei
              have ei' : insO ns (some q) = true := ei
              simp only [if_neg (show ¬ insO ns (some q) = false by rw [ei']; simp)] at k
              exact k _ _ (Same.trans e2 e3) rfl
      cases bk with
      | none =>
        have hv : v4 = .non := hBk
        subst hv
        refine ⟨_, rfl, rfl, _, rfl, ?_⟩
        rw [decide_eq_true (show L2.V.non = L2.V.non from rfl)]
        refine iteF ?_
        exact rest H1 _ e1 rfl
      | some bs =>
        obtain ⟨lb, rfl, sb⟩ := RoomAt.mono e1 hBk
        refine ⟨_, rfl, rfl, _, rfl, ?_⟩
        rw [decide_eq_false (show ¬ L2.V.ref lb = L2.V.non by intro q; cases q)]
        refine iteT ?_
        refine ⟨_, rfl, _, bs, rfl, ⟨lb, rfl, sb⟩, fun H2 e2 => ?_⟩
        have e12 := Same.trans e1 e2
        refine ⟨_, rfl, rfl, _, rfl, ?_⟩
        cases eb : bookM bs with
        | some i =>
          have hb : (some bs : Option (List Int)).bind bookM = some i := eb
          simp only [hb] at k
          rw [oV_some]
          refine iteT ?_
          exact ⟨_, rfl, _, rfl, (by show 2 ≤ sizeLine; decide), fun l hl => k _ _ (Same.upd e12 hl) ⟨l, rfl, upd_same⟩⟩
        | none =>
          rw [oV_none]
          refine iteF ?_
          exact rest H2 _ e12 eb
theorem ok_cf (F : Fun K "clear_from" "clear_from" st_clear_from f fd) (T : Txt mg) (C3 : Cal P w K mg base 2 "lines_of" ["room"] (spLines K)) (C4 : Cal P w K mg base 4 "is_inside" ["p", "height", "lines"] (spIn K))
    (C6 : Cal P w K mg base 3 "is_clear" ["p", "q", "lines"] (spCr K)) : FnOk P w K mg base CX0 5 f fd ["s", "places", "room"] (spCf K) := by
  obtain ⟨f3, fd3, G3, m3, k3, b3⟩ := C3.ex
  obtain ⟨f4, fd4, G4, m4, k4, b4⟩ := C4.ex
  obtain ⟨f6, fd6, G6, m6, k6, b6⟩ := C6.ex
  refine F.ok scCf (fun vs H Q E h => ?_) (fun cdv A outer s0 H vs Q E hr h => ?_)
  · obtain ⟨v1, lp, v3, p, z0, N, c, z, ns, rfl, _⟩ := h
    rfl
  · obtain ⟨v1, lp, v3, p, z0, N, c, z, ns, rfl, pp, pz, bp, ⟨vs, hvs, hvl, hvp⟩, hN, bc, hR, ef, k⟩ := h
    have hr2 : Room 2 _ := hr.mono (by decide)
    have hr3 : Room 3 _ := hr.mono (by decide)
    refine ⟨_, pss_cons (ps_set (i := 3) scCf.nd rfl (Or.inl rfl) (pe_call G3 hr2 rfl m3 k3 b3 .nil pass0 (pa_cons (pv 2) pa_nil)))
      (pss_cons (ps_if (pt_not (pt_val (pe_call G4 hr rfl m4 k4 b4 .nil pass0 (pa_cons (pv 0) (pa_cons (pe_ix ix_list (pv 2) pe_int (fun _ _ => rfl)) (pa_cons (pv 3) pa_nil)))))) (pss_one (ps_ret (pe_lst pa_nil))) pss_nil)
      (pss_cons (ps_set (i := 4) scCf.nd rfl (Or.inl rfl) (pe_lst pa_nil))
      (pss_cons (ps_for PassesOwn.never rfl (pi_enum rfl T.enum (pa_cons (pv 1) pa_nil))
        (pg_tup rfl (pgs_cons (pg_name (i := 5) scCf.nd rfl (Or.inl rfl)) (pgs_cons (pg_name (i := 6) scCf.nd rfl (Or.inl rfl)) pgs_nil)))
        (pss_one (ps_if (PW.pt (pw_and (pt_val (pe_call G4 hr rfl m4 k4 b4 .nil pass0 (pa_cons (pv 6) (pa_cons (pe_ix ix_list (pv 2) pe_int (fun _ _ => rfl)) (pa_cons (pv 3) pa_nil)))))
            (pw_and1 (pt_val (pe_call G6 hr3 rfl m6 k6 b6 .nil pass0 (pa_cons (pv 0) (pa_cons (pv 6) (pa_cons (pv 3) pa_nil))))))))
          (pss_one (ps_expr (pe_bm PySem.F.plainAttrs_list PySem.F.slot_list_append PySem.F.type_list_append mt_append (pv 4) (pa_cons (pv 5) pa_nil)))) pss_nil)))
      (pss_one (ps_ret (pv 4)))))), ?_⟩
    obtain ⟨S, hn, h3, h64, _, _⟩ := small_room ef
    have none_of : ∀ {H2 : Hp} {a : Addr}, Same H H2 → H2 a = none → H a = none := fun {H2 a} e ha => by
      cases hh : H a with
      | none => rfl
      | some o => rw [e _ _ hh] at ha; cases ha
    refine ⟨_, rfl, v3, ns, Geo.cn ns, rfl, hR, hn, by trivial, h64, fun H1 xl e1 hL => ?_⟩
    obtain ⟨lr, rfl, sr⟩ := hR.mono e1
    refine ⟨_, rfl, _, rfl, _, _, _, _, rfl, rfl, sr, at0 (room_at (by trivial)), _, rfl, _, _, _, _, _, _, _, rfl, pp.mono e1, pz.mono e1, bp, hL, S, _, rfl, iteB (fun ei => ?_) (fun ei => ?_)⟩
    · rw [Bool.not_eq_true'] at ei
      refine ⟨(by show 0 ≤ sizeLine; decide), fun l hl => k _ l (Same.upd e1 hl) (none_of e1 hl) ?_⟩
      unfold clearL
      rw [if_neg (by rw [ei]; simp)]
      exact upd_same
    · rw [Bool.not_eq_false'] at ei
      refine ⟨(by show 0 ≤ sizeLine; decide), fun D hD => ?_⟩
      have e2 : Same H (L2.upd H1 D (.lst [])) := Same.upd e1 hD
      have HD := none_of e1 hD
      have hDlp : lp ≠ D := fun q => by rw [q, HD] at hvs; cases hvs
      refine ⟨_, rfl, lp, vs, rfl, SqL.of (e2 _ _ hvs), for_enum (K := K) (a := lp) (xs := vs) (fun i σ H' => Same H1 H' ∧
        H' D = some (.lst ((((List.range i).filter (clearP ns p c z)).map fun (i : Nat) => (i : Int)).map L2.V.int)) ∧
        ∃ a b, σ = [some v1, some (.ref lp), some (.ref lr), some xl, some (.ref D), a, b])
        ⟨Same.upd (Same.refl H1) hD, upd_same, ⟨_, _, rfl⟩⟩ (fun i σ H' _ ⟨h, _⟩ => SqL.of (h _ _ (e1 _ _ hvs))) ?_ ?_⟩
      · rintro i xi σ H' tt hi ⟨s6, hD6, a, b, rfl⟩ htt
        have st : Same H' (L2.upd H' tt (.tup [.int (i : Nat), xi])) := Same.upd (Same.refl H') htt
        have hin : i < N := by rw [← hvl]; exact (List.getElem?_eq_some_iff.1 hi).1
        have hD7 := st _ _ hD6
        have s7 : Same H1 (L2.upd H' tt (.tup [.int (i : Nat), xi])) := s6.trans st
        have s07 := Same.trans e1 s7
        obtain ⟨q1, q2⟩ := hvp i xi hi
        have bP := bc i hin
        have hlen6 := filt_len (clearP ns p c z) i
        have hsucc := filt_succ (clearP ns p c z) i
        refine ⟨tt, _, rfl, SqT.of upd_same, rfl, _, _, rfl, _, _, rfl, rfl, ?_⟩
        refine ⟨_, rfl, _, rfl, _, _, _, _, rfl, rfl, s7.seq sr, at0 (room_at (by trivial)), _, rfl, _, _, _, _, _, _, _, rfl, q1.mono s07, q2.mono s07, bP, hL.mono s7, S, _, rfl, iteB (fun e1 => ?_) (fun e1 => ?_)⟩
        · refine ⟨_, rfl, _, rfl, _, rfl, _, _, _, _, _, _, _, rfl, pp.mono s07, q1.mono s07, bp, bP, hL.mono s7, S, _, rfl, iteB (fun e2 => ?_) (fun e2 => ?_)⟩
          · have ep : clearP ns p c z i = true := by unfold clearP; rw [e1, e2]; rfl
            rw [if_pos ep] at hsucc
            refine ⟨_, rfl, .inl ⟨rfl, _, SqL.of hD7⟩, _, rfl, D, _, _, rfl, rfl, hD7, Nat.lt_of_le_of_lt hlen6 (Nat.lt_of_lt_of_le (show i < 300 by trivial) (by decide)), ?_⟩
            refine ⟨Same.set hD s7, ?_, ⟨_, _, rfl⟩⟩
            rw [upd_same, hsucc, List.map_append]
            rfl
          · have ep : clearP ns p c z i = false := by unfold clearP; rw [e1, e2]; rfl
            rw [if_neg (by rw [ep]; simp), List.append_nil] at hsucc
            refine ⟨s7, ?_, ⟨_, _, rfl⟩⟩
            rw [hsucc]
            exact hD7
        · have ep : clearP ns p c z i = false := by unfold clearP; rw [e1]; rfl
          rw [if_neg (by rw [ep]; simp), List.append_nil] at hsucc
          refine ⟨s7, ?_, ⟨_, _, rfl⟩⟩
          rw [hsucc]
          exact hD7
      · rintro σ H' ⟨s6, hD6, a, b, rfl⟩
        rw [hvl] at hD6
        refine ⟨_, rfl, k _ D (Same.trans e1 s6) HD ?_⟩
        unfold clearL
        rw [if_pos ei]
        exact hD6
theorem ok_pr (F : Fun K "are_points_right" "are_points_right" st_are_points_right f fd) (T : Txt mg) : FnOk P w K mg base CX0 1 f fd ["row", "least", "largest"] (spPr K) := by
  refine F.ok scPr (fun vs H Q E h => ?_) (fun cdv A outer s H vs Q E hr h => ?_)
  · obtain ⟨v, ps, a, b, rfl, _⟩ := h
    rfl
  · obtain ⟨v, ps, a, b, rfl, ⟨l, rfl, sl⟩, k⟩ := h
    refine ⟨_, pss_one (ps_ret (pe_and
      (pe_cmpR op_eq (pe_op op_mod (pe_callB call_len_seq (by rfl) T.len PySem.boot_len (pa_cons (pv 0) pa_nil)) pe_int) pe_int (nomark _))
      (pe_one (pe_chain op_le op_le (pv 1) (pe_op op_fdiv (pe_callB call_len_seq (by rfl) T.len PySem.boot_len (pa_cons (pv 0) pa_nil)) pe_int) (pv 2))))), ?_⟩
    refine ⟨_, rfl, _, _, rfl, .inl sl, _, _, rfl, rfl, (by show (0 : Int) < 3; decide), rfl, _, rfl, iteB (fun e1 => ?_) (fun e1 => ?_)⟩
    · refine ⟨_, rfl, _, rfl, _, _, rfl, .inl sl, _, _, rfl, rfl, ⟨by decide, by decide⟩, _, _, rfl, rfl, _, rfl, iteB (fun e2 => ?_) (fun e2 => ?_)⟩
      · refine ⟨_, rfl, _, _, rfl, rfl, ?_⟩
        simp only [decide_eq_true_eq, L2.V.int.injEq, List.length_map] at e1 e2
        have : Geo.rowM ps a b = decide (((ps.map L2.V.int).length : Int) / 3 ≤ (b : Int)) := by
          apply Geo.bool_ext
          unfold Geo.rowM
          rw [List.length_map]
          simp only [Bool.and_eq_true, decide_eq_true_eq]
          trivial
        rw [this] at k
        exact k
      · simp only [decide_eq_false_iff_not, decide_eq_true_eq, L2.V.int.injEq, List.length_map] at e1 e2
        have : Geo.rowM ps a b = false := by
          unfold Geo.rowM
          simp only [Bool.and_eq_false_iff, decide_eq_false_iff_not]
          trivial
        rw [this] at k
        exact k
    · simp only [decide_eq_false_iff_not, L2.V.int.injEq, List.length_map] at e1
      have : Geo.rowM ps a b = false := by
        unfold Geo.rowM
        simp only [Bool.and_eq_false_iff, decide_eq_false_iff_not]
        trivial
      rw [this] at k
      exact k
theorem ok_ps (F : Fun K "points_of" "points_of" st_points_of f fd) (T : Txt mg) : FnOk P w K mg base CX0 1 f fd ["row"] (spPs K) := by
  refine F.ok scPs (fun vs H Q E h => ?_) (fun cdv A outer s H vs Q E hr h => ?_)
  · obtain ⟨v, ps, n, rfl, _⟩ := h
    rfl
  · obtain ⟨v, ps, n, rfl, ⟨l, rfl, sl⟩, hn, h64, k⟩ := h
    refine ⟨_, pss_one (ps_ret (pe_lc (own := [("k", 1)]) rfl scPs.nd
      (pi_range3 rfl T.range (pa_cons pe_int (pa_cons (pe_callB call_len_seq (by rfl) T.len PySem.boot_len (pa_cons (pv 0) pa_nil)) (pa_cons pe_int pa_nil))))
      (blkOk_by blkPs) (fun _ _ _ _ _ => pg_name (i := 1) scPs.nd rfl (Or.inl rfl)) (fun _ _ _ _ _ => pts_nil)
      (fun _ _ _ _ _ => pe_tup (pa_cons (pe_ix (ixl (K := K) rfl) (pv 0) (pv 1) (fun _ _ => rfl)) (pa_cons (pe_ix (ixl (K := K) rfl) (pv 0) (pe_op op_add (pv 1) pe_int) (fun _ _ => rfl)) (pa_cons (pe_ix (ixl (K := K) rfl) (pv 0) (pe_op op_add (pv 1) pe_int) (fun _ _ => rfl)) pa_nil)))))), ?_⟩
    have hlen : (ps.map L2.V.int).length = 3 * n := by rw [List.length_map]; exact hn
    refine ⟨_, rfl, _, _, rfl, .inl sl, 0, ((3 * n : Nat) : Int), 3, n, (by rw [hlen]; all_goals rfl), rg0 (by trivial), fun D hD => lc_rangeC (fun i H' => Same H H' ∧ ∃ acc, H' D = some (.lst acc) ∧ acc.length = i ∧ ∀ j x, acc[j]? = some x → PtAt K H' x (ptX ps j) ∧ CoAt K H' x 2 (ptZ ps j)) ?_ ?_ ?_⟩
    · exact ⟨Same.set hD (Same.refl H), [], upd_same, rfl, fun j x h => by simp at h⟩
    · rintro i H' hi ⟨s1, acc, hacc, hal, hall⟩
      refine ⟨rfl, ?_⟩
      refine ⟨_, rfl, _, rfl, _, _, _, _, rfl, rfl, s1.seq sl, at_of (j := 3 * i) (by trivial) (room_at (by trivial)), ?_⟩
      refine ⟨_, rfl, _, rfl, _, _, rfl, rfl, _, _, _, _, rfl, rfl, s1.seq sl, at_of (j := 3 * i + 1) (by trivial) (room_at (by trivial)), ?_⟩
      refine ⟨_, rfl, _, rfl, _, _, rfl, rfl, _, _, _, _, rfl, rfl, s1.seq sl, at_of (j := 3 * i + 2) (by trivial) (room_at (by trivial)), ?_⟩
      refine ⟨(by show 3 ≤ sizeLine; decide), fun t ht => ?_⟩
      have hDt : D ≠ t := ne_of_none hacc ht
      have e1 : ∀ o, (L2.upd H' t o) D = some (.lst acc) := fun o => by rw [upd_ne hDt]; exact hacc
      refine ⟨acc, e1 _, by rw [hal]; exact Nat.lt_of_lt_of_le hi (Nat.le_trans h64 (by decide)), Same.set hD (Same.upd s1 ht), _, upd_same, by rw [List.length_append, hal]; rfl, fun j x hx => ?_⟩
      rcases snoc_get hx with ⟨_, hx⟩ | ⟨hj, rfl⟩
      · have := hall j x hx
        exact ⟨PtAt.set (e1 _) (this.1.mono (Same.upd (Same.refl H') ht)), CoAt.set (e1 _) (this.2.mono (Same.upd (Same.refl H') ht))⟩
      · rw [hal] at hj
        subst hj
        exact ⟨PtAt.set (e1 _) ⟨t, _, rfl, SqT.of upd_same, rfl, rfl⟩, CoAt.set (e1 _) ⟨t, _, rfl, SqT.of upd_same, rfl⟩⟩
    · rintro H' ⟨s1, acc, hacc, hal, hall⟩
      exact k H' _ s1 hD ⟨acc, hacc, hal, hall⟩
theorem ok_rr (F : Fun K "rising_rows" "rising_rows" st_rising_rows f fd) (T : Txt mg) (TC : TxtC mg) : FnOk P w K mg base CX0 1 f fd ["count"] (spRr K) := by
  refine F.ok scRr (fun vs H Q E h => ?_) (fun cdv A outer s0 H vs Q E hr h => ?_)
  · obtain ⟨n, rfl, _⟩ := h
    rfl
  · obtain ⟨n, rfl, hn8, k⟩ := h
    refine ⟨_, pss_cons (ps_set (i := 1) scRr.nd rfl (Or.inl rfl) (pe_lst (pa_cons (pe_tup pa_nil) pa_nil)))
      (pss_cons (ps_set (i := 2) scRr.nd rfl (Or.inl rfl) (pe_callTy call_list_of (by rfl) TC.list boot_listT (pa_cons (pv 1) pa_nil)))
      (pss_cons (ps_for PassesOwn.never rfl (pi_range1 rfl T.range (pa_cons (pv 0) pa_nil)) (pg_name (i := 3) scRr.nd rfl (Or.inl rfl))
        (pss_cons (ps_set (i := 4) scRr.nd rfl (Or.inl rfl) (pe_lst pa_nil))
        (pss_cons (ps_for PassesOwn.never rfl (pi_list (pv 1)) (pg_name (i := 5) scRr.nd rfl (Or.inl rfl))
          (pss_cons (ps_set (i := 6) scRr.nd rfl (Or.inl rfl) (pe_ifExp (pt_cmpR op_gt (pe_callB call_len_seq (by rfl) T.len PySem.boot_len (pa_cons (pv 5) pa_nil)) pe_int (nomark _)) (pe_op op_add (pe_ix ix_tup (pv 5) (pe_un un_neg pe_int) (fun _ _ => rfl)) pe_int) pe_int))
          (pss_one (ps_for PassesOwn.never rfl (pi_range2 rfl T.range (pa_cons (pv 6) (pa_cons (pv 0) pa_nil))) (pg_name (i := 7) scRr.nd rfl (Or.inl rfl))
            (pss_one (ps_expr (pe_bm PySem.F.plainAttrs_list PySem.F.slot_list_append PySem.F.type_list_append mt_append (pv 4) (pa_cons (pe_op op_catA (pv 5) (pe_tup (pa_cons (pv 7) pa_nil))) pa_nil))))))))
        (pss_cons (ps_expr (pe_bm PySem.F.plainAttrs_list PySem.F.slot_list_extend PySem.F.type_list_extend mt_extend (pv 2) (pa_cons (pv 4) pa_nil)))
        (pss_one (ps_set (i := 1) scRr.nd rfl (Or.inl rfl) (pv 4)))))))
      (pss_one (ps_ret (pv 2))))), ?_⟩
    refine ⟨(by show 0 ≤ sizeLine; decide), fun p0 hp0 => ⟨(by show 1 ≤ sizeLine; decide), fun p3 hp3 => ?_⟩⟩
    have f0 := Same.upd (Same.refl H) hp0 (o := .tup [])
    have f3 := Same.upd f0 hp3 (o := .lst [.ref p0])
    refine ⟨_, rfl, p3, _, rfl, .inl (SqL.of upd_same), fun p4 hp4 => ?_⟩
    have f4 := Same.upd f3 hp4 (o := .lst [.ref p0])
    have none_of : ∀ {H2 : Hp} {a : Addr}, Same H H2 → H2 a = none → H a = none := fun {H2 a} e ha => by
      cases hh : H a with
      | none => rfl
      | some o => rw [e _ _ hh] at ha; cases ha
    have g4 := Same.upd (Same.upd (Same.refl _) hp3 (o := .lst [.ref p0])) hp4 (o := .lst [.ref p0])
    have hrw0 : RnAt K (L2.upd (L2.upd (L2.upd H p0 (.tup [])) p3 (.lst [.ref p0])) p4 (.lst [.ref p0])) (.ref p0) [] := ⟨p0, rfl, SqT.of (g4 _ _ upd_same)⟩
    have hln : (n : Int).toNat = n := Int.toNat_natCast n
    refine ⟨_, rfl, (n : Int), rfl, by trivial, by trivial, ?_⟩
    rw [hln]
    refine for_range (fun i σ H' => Same H H' ∧ ∃ ln nl rl x3 x4 x5 x6 x7, σ = [some (.int (n : Nat)), some (.ref ln), some (.ref p4), x3, x4, x5, x6, x7] ∧ H' ln = some (.lst nl) ∧ H ln = none ∧ ln ≠ p4 ∧
      RnsAt K H' nl (Geo.riseM n i) ∧ H' p4 = some (.lst rl) ∧ RnsAt K H' rl ((List.range (i + 1)).flatMap (Geo.riseM n))) ?_ ?_ ?_
    · refine ⟨f4, p3, _, _, _, _, _, _, _, rfl, ?_, none_of f0 hp3, ?_, RnsAt.one hrw0, upd_same, ?_⟩
      · exact Same.upd (Same.refl _) hp4 _ _ upd_same
      · exact ne_of_none (show (L2.upd _ p3 (.lst [.ref p0])) p3 = some _ from upd_same) hp4
      · exact RnsAt.one hrw0
    · rintro i σ Hb hi ⟨eb, ln, nl, rl, x3, x4, x5, x6, x7, rfl, hln1, hln2, hne, hnl, hrl, hrows⟩
      have hnlen : (Geo.riseM n i).length ≤ 256 := rise_len hn8
      refine ⟨(by show 0 ≤ sizeLine; decide), fun D hD => ?_⟩
      have HD := none_of eb hD
      have dln : D ≠ ln := fun z => by rw [z, hln1] at hD; cases hD
      have dp4 : D ≠ p4 := fun z => by rw [z, hrl] at hD; cases hD
      refine ⟨_, rfl, ln, rfl, ⟨nl, SqL.of (Same.upd (Same.refl _) hD _ _ hln1)⟩, ?_⟩
      refine for_list (K := K) (a := ln) (xs := nl) (fun a σ H2 => Same Hb H2 ∧ (∃ y5 y6 y7, σ = [some (.int (n : Nat)), some (.ref ln), some (.ref p4), some (.int (0 + (i : Nat))), some (.ref D), y5, y6, y7]) ∧
        ∃ acc, H2 D = some (.lst acc) ∧ RnsAt K H2 acc (((Geo.riseM n i).take a).flatMap (Geo.extM n 0))) ?_ (fun a σ H2 _ ⟨e, _⟩ => SqL.of (e _ _ hln1)) ?_ ?_
      · exact ⟨Same.upd (Same.refl _) hD, ⟨_, _, _, rfl⟩, [], upd_same, RnsAt.nil⟩
      · rintro a x σ H2 ha ⟨e2, ⟨y5, y6, y7, rfl⟩, acc, hacc, hal⟩
        obtain ⟨row, hrow, hrx⟩ := (hnl.mono e2).get ha
        have hmem := List.mem_of_getElem? hrow
        have hrl1 := rise_row hmem
        have halt : a < (Geo.riseM n i).length := (List.getElem?_eq_some_iff.1 hrow).1
        have l1 := flat_lenC (f := Geo.extM n 0) (c := n) ((Geo.riseM n i).take a) (fun x _ => ext_len _)
        rw [List.length_take, Nat.min_eq_left (by trivial)] at l1
        have l3 : a * n ≤ 256 * 8 := Nat.mul_le_mul (by trivial) hn8
        obtain ⟨tr, rfl, str⟩ := hrx
        have hst := start_le hmem
        refine ifx (v := .int ((Geo.startM 0 row : Nat) : Int)) (fun Q' q => ?_) ?_
        · refine ⟨_, rfl, tr, _, rfl, .inr str, _, _, rfl, rfl, _, rfl, ?_⟩
          rw [natV_len]
          cases hm : row.length with
          | zero =>
            rw [decide_eq_false (show ¬ (0 : Int) < ((0 : Nat) : Int) by trivial)]
            refine iteF ?_
            have : row = [] := List.eq_nil_of_length_eq_zero hm
            subst this
            exact q
          | succ m =>
            rw [decide_eq_true (show (0 : Int) < ((m + 1 : Nat) : Int) by trivial)]
            refine iteT ?_
            obtain ⟨x, hx1, hx2⟩ := start_last hm
            rw [hx2] at q
            exact ⟨_, rfl, _, rfl, _, _, _, _, rfl, rfl, str, atl (by rw [natV_len]; exact hm) (natV_get hx1), _, _, rfl, rfl, q⟩
        · refine ⟨_, rfl, _, rfl, ((Geo.startM 0 row : Nat) : Int), (n : Int), rfl, ⟨by trivial, by trivial, by trivial, by trivial⟩, ?_⟩
          have etn : ((n : Int) - ((Geo.startM 0 row : Nat) : Int)).toNat = n - Geo.startM 0 row := by trivial
          rw [etn]
          refine for_range (fun b σ H3 => Same Hb H3 ∧ (∃ y7, σ = [some (.int (n : Nat)), some (.ref ln), some (.ref p4), some (.int (0 + (i : Nat))), some (.ref D), some (.ref tr), some (.int ((Geo.startM 0 row : Nat) : Int)), y7]) ∧ SqT K H3 tr (natV row) ∧
            ∃ acc, H3 D = some (.lst acc) ∧ RnsAt K H3 acc (((Geo.riseM n i).take a).flatMap (Geo.extM n 0) ++ (List.range' (Geo.startM 0 row) b).map fun j => row ++ [j])) ?_ ?_ ?_
          · refine ⟨e2, ⟨_, rfl⟩, str, acc, hacc, ?_⟩
            have : (List.range' (Geo.startM 0 row) 0).map (fun j => row ++ [j]) = [] := rfl
            rw [this, List.append_nil]
            exact hal
          · rintro b σ H3 hb ⟨e3, ⟨y7, rfl⟩, r2, acc3, hacc3, hal3⟩
            refine ⟨_, rfl, .inl ⟨rfl, _, SqL.of hacc3⟩, _, rfl, _, rfl, (by show 1 ≤ sizeLine; decide), fun q1 hq1 => ?_⟩
            have e6 := Same.upd (Same.refl H3) hq1 (o := .tup [.int (((Geo.startM 0 row : Nat) : Int) + (b : Nat))])
            refine cat_rn (K := K) (j := Geo.startM 0 row + b) (RnAt.mono e6 ⟨tr, rfl, r2⟩) (by rw [Int.natCast_add]; exact SqT.of upd_same) (by trivial) (fun v H5 e7 hv => ?_)
            have e67 := Same.trans e6 e7
            have hd6 := e67 _ _ hacc3
            refine ⟨D, _, _, rfl, rfl, hd6, ?_, ?_⟩
            · rw [hal3.1, List.length_append, List.length_map, List.length_range', sizeLine_eq]
              trivial
            · refine ⟨Same.set hD (Same.trans e3 e67), ⟨_, rfl⟩, SqT.set hd6 (Same.tup e67 r2), _, upd_same, ?_⟩
              rw [List.range'_1_concat, List.map_append, ← List.append_assoc]
              exact RnsAt.append ((hal3.mono e67).set hd6) (RnsAt.one (RnAt.set hd6 hv))
          · rintro σ H3 ⟨e3, ⟨y7, rfl⟩, r2, acc3, hacc3, hal3⟩
            refine ⟨e3, ⟨_, _, _, rfl⟩, acc3, hacc3, ?_⟩
            rw [take_flatC hrow]
            exact hal3
      · rintro σ H2 ⟨e2, ⟨y5, y6, y7, rfl⟩, acc, hacc, hal⟩
        rw [hnl.1, List.take_length] at hal
        have hr2 := e2 _ _ hrl
        refine ⟨_, rfl, .inl ⟨rfl, _, SqL.of hr2⟩, _, rfl, p4, D, _, _, rfl, rfl, hr2, hacc, ?_, ?_⟩
        · rw [hrows.1, hal.1]
          have l1 := flat_lenC (f := Geo.riseM n) (c := 256) (List.range (i + 1)) (fun x hx => rise_len hn8)
          have l2 : ((Geo.riseM n i).flatMap (Geo.extM n 0)).length ≤ 256 := rise_len (n := n) (k := i + 1) hn8
          rw [List.length_range] at l1
          have l3 : (i + 1) * 256 ≤ 9 * 256 := Nat.mul_le_mul_right _ (by trivial)
          rw [sizeLine_eq]
          trivial
        · refine ⟨_, rfl, ?_⟩
          have e5 := Same.set (o := .lst (rl ++ acc)) (none_of f3 hp4) (Same.trans eb e2)
          refine ⟨e5, D, acc, rl ++ acc, _, _, _, _, _, rfl, by rw [upd_ne dp4]; exact hacc, HD, dp4, hal.set hr2, upd_same, ?_⟩
          rw [List.range_succ, List.flatMap_append]
          refine RnsAt.append ((hrows.mono e2).set hr2) ?_
          have : [i + 1].flatMap (Geo.riseM n) = Geo.riseM n (i + 1) := by simp
          rw [this]
          exact hal.set hr2
    · rintro σ H' ⟨eb, ln, nl, rl, x3, x4, x5, x6, x7, rfl, hln1, hln2, hne, hnl, hrl, hrows⟩
      exact ⟨_, rfl, k _ _ _ eb (none_of f3 hp4) hrl hrows⟩
theorem ok_fm (F : Fun K "first_missed" "first_missed" st_first_missed f fd) (T : Txt mg) (TC : TxtC mg) : FnOk P w K mg base CX0 1 f fd ["row", "covered", "count"] (spFm K) := by
  refine F.ok scFm (fun vs H Q E h => ?_) (fun cdv A outer s0 H vs Q E hr h => ?_)
  · obtain ⟨tr, lc, s, np, ne, see, rfl, _⟩ := h
    rfl
  · obtain ⟨tr, lc, s, np, ne, see, rfl, hq, hs, hsl, hC, hne, k⟩ := h
    rcases hq with hq | hq
    · refine ⟨_, pss_cons (ps_for PassesOwn.never rfl (pi_range1 rfl T.range (pa_cons (pv 2) pa_nil)) (pg_name (i := 3) scFm.nd rfl (Or.inr rfl))
          (pss_one (ps_if (pt_not (pt_val (pe_callB (cr_any rfl) (by rfl) TC.any boot_any (pa_cons (pe_lc (own := [("place", 4)]) rfl scFm.nd (pi_list (pv 0)) (blkOk_by blkFm) (fun _ _ _ _ _ => pg_name (i := 4) scFm.nd rfl (Or.inl rfl)) (fun _ _ _ _ _ => pts_nil)
            (fun _ _ _ _ _ => pe_cmpR (opin (K := K) rfl) (pv 3) (pe_ix (ixl (K := K) rfl) (pv 1) (pv 4) (fun _ _ => rfl)) (by with_unfolding_all rfl))) pa_nil)))) (pss_one (ps_ret (pv 3))) pss_nil)))
        (pss_one (ps_ret pe_non)), ?_⟩
      refine ⟨_, rfl, (ne : Int), rfl, by trivial, by trivial, ?_⟩
      rw [Int.toNat_natCast]
      refine for_range (fun i σ H' => Same H H' ∧ (∃ y3 y4, σ = [some (.ref tr), some (.ref lc), some (.int (ne : Nat)), y3, y4]) ∧ ∀ j, j < i → (!(s.any fun p => see p j)) = false) ⟨Same.refl H, ⟨_, _, rfl⟩, fun j hj => by trivial⟩ ?_ ?_
      · rintro i σ H' hi ⟨e1, ⟨y3, y4, rfl⟩, hb⟩
        refine ⟨_, rfl, tr, rfl, ⟨_, e1.seq hq⟩, fun D hD => lc_list (K := K) (a := tr) (xs := natV s) (fun m H2 => Same H' H2 ∧ H2 D = some (.lst (((s.take m).map fun p => see p i).map L2.V.bl))) ?_ (fun m H2 _ ⟨e2, _⟩ => (Same.trans e1 e2).seq hq) ?_ ?_⟩
        · exact ⟨Same.set hD (Same.refl H'), upd_same⟩
        · rintro m y H2 hm ⟨e2, hacc⟩
          have hmn : m < s.length := by have := (List.getElem?_eq_some_iff.1 hm).1; rwa [natV_len] at this
          have gm : s[m]? = some (s[m]'hmn) := List.getElem?_eq_getElem hmn
          have hw := hs _ (List.mem_of_getElem? gm)
          rw [natV_get gm] at hm
          cases hm
          have et : (s.take (m + 1)).map (fun p => see p i) = (s.take m).map (fun p => see p i) ++ [see (s[m]'hmn) i] := by rw [List.take_succ, gm, List.map_append]; rfl
          generalize s[m]'hmn = j at *
          obtain ⟨vc, hvc, hvl, hva⟩ := hC.mono (Same.trans e1 e2)
          have hj : j < vc.length := by rw [hvl]; exact hw
          obtain ⟨a, ea, ha⟩ := hva j _ (List.getElem?_eq_getElem hj)
          refine ⟨rfl, ?_⟩
          refine ⟨_, rfl, _, rfl, _, rfl, _, _, _, _, rfl, rfl, SqL.of hvc, at_of (j := j) rfl ((List.getElem?_eq_getElem hj).trans (congrArg some ea)), a, _, rfl, .inl (SqL.of ha), rfl, natV_flat _, _, hacc, ?_, Same.set hD e2, ?_⟩
          · rw [List.length_map, List.length_map, List.length_take]
            exact Nat.lt_of_le_of_lt (Nat.min_le_left _ _) (Nat.lt_of_lt_of_le (show m < 1000 by trivial) (by decide))
          · rw [upd_same, et, List.map_append, List.map_cons, List.map_nil, in_see hi]
            rfl
        · rintro H2 ⟨e2, hacc⟩
          rw [natV_len, List.take_length] at hacc
          have e02 := Same.trans e1 e2
          refine ⟨D, _, rfl, SqL.of hacc, _, rfl, ?_⟩
          have ea : (s.map fun p => see p i).any id = s.any fun p => see p i := by rw [List.any_map]; rfl
          rw [ea]
          refine iteB (fun e => ?_) (fun e => ?_)
          · refine ⟨_, rfl, ?_⟩
            have kk := k _ e02
            unfold Geo.missM at kk
            rw [find_at (p := fun e => !(s.any fun p => see p e)) hi e hb] at kk
            rw [Int.zero_add]
            exact kk
          · exact ⟨e02, ⟨_, _, rfl⟩, upto hb e⟩
      · rintro σ H' ⟨e1, ⟨y3, y4, rfl⟩, hb⟩
        have kk := k _ e1
        unfold Geo.missM at kk
        rw [find_no (p := fun e => !(s.any fun p => see p e)) hb] at kk
        exact kk
    · refine ⟨_, pss_cons (ps_for PassesOwn.never rfl (pi_range1 rfl T.range (pa_cons (pv 2) pa_nil)) (pg_name (i := 3) scFm.nd rfl (Or.inr rfl))
          (pss_one (ps_if (pt_not (pt_val (pe_callB (cr_any rfl) (by rfl) TC.any boot_any (pa_cons (pe_lc (own := [("place", 4)]) rfl scFm.nd (pi_tup (pv 0)) (blkOk_by blkFm) (fun _ _ _ _ _ => pg_name (i := 4) scFm.nd rfl (Or.inl rfl)) (fun _ _ _ _ _ => pts_nil)
            (fun _ _ _ _ _ => pe_cmpR (opin (K := K) rfl) (pv 3) (pe_ix (ixl (K := K) rfl) (pv 1) (pv 4) (fun _ _ => rfl)) (by with_unfolding_all rfl))) pa_nil)))) (pss_one (ps_ret (pv 3))) pss_nil)))
        (pss_one (ps_ret pe_non)), ?_⟩
      refine ⟨_, rfl, (ne : Int), rfl, by trivial, by trivial, ?_⟩
      rw [Int.toNat_natCast]
      refine for_range (fun i σ H' => Same H H' ∧ (∃ y3 y4, σ = [some (.ref tr), some (.ref lc), some (.int (ne : Nat)), y3, y4]) ∧ ∀ j, j < i → (!(s.any fun p => see p j)) = false) ⟨Same.refl H, ⟨_, _, rfl⟩, fun j hj => by trivial⟩ ?_ ?_
      · rintro i σ H' hi ⟨e1, ⟨y3, y4, rfl⟩, hb⟩
        refine ⟨_, rfl, tr, rfl, ⟨_, Same.tup e1 hq⟩, fun D hD => lc_tup (K := K) (a := tr) (xs := natV s) (fun m H2 => Same H' H2 ∧ H2 D = some (.lst (((s.take m).map fun p => see p i).map L2.V.bl))) ?_ (fun m H2 _ ⟨e2, _⟩ => Same.tup (Same.trans e1 e2) hq) ?_ ?_⟩
        · exact ⟨Same.set hD (Same.refl H'), upd_same⟩
        · rintro m y H2 hm ⟨e2, hacc⟩
          have hmn : m < s.length := by have := (List.getElem?_eq_some_iff.1 hm).1; rwa [natV_len] at this
          have gm : s[m]? = some (s[m]'hmn) := List.getElem?_eq_getElem hmn
          have hw := hs _ (List.mem_of_getElem? gm)
          rw [natV_get gm] at hm
          cases hm
          have et : (s.take (m + 1)).map (fun p => see p i) = (s.take m).map (fun p => see p i) ++ [see (s[m]'hmn) i] := by rw [List.take_succ, gm, List.map_append]; rfl
          generalize s[m]'hmn = j at *
          obtain ⟨vc, hvc, hvl, hva⟩ := hC.mono (Same.trans e1 e2)
          have hj : j < vc.length := by rw [hvl]; exact hw
          obtain ⟨a, ea, ha⟩ := hva j _ (List.getElem?_eq_getElem hj)
          refine ⟨rfl, ?_⟩
          refine ⟨_, rfl, _, rfl, _, rfl, _, _, _, _, rfl, rfl, SqL.of hvc, at_of (j := j) rfl ((List.getElem?_eq_getElem hj).trans (congrArg some ea)), a, _, rfl, .inl (SqL.of ha), rfl, natV_flat _, _, hacc, ?_, Same.set hD e2, ?_⟩
          · rw [List.length_map, List.length_map, List.length_take]
            exact Nat.lt_of_le_of_lt (Nat.min_le_left _ _) (Nat.lt_of_lt_of_le (show m < 1000 by trivial) (by decide))
          · rw [upd_same, et, List.map_append, List.map_cons, List.map_nil, in_see hi]
            rfl
        · rintro H2 ⟨e2, hacc⟩
          rw [natV_len, List.take_length] at hacc
          have e02 := Same.trans e1 e2
          refine ⟨D, _, rfl, SqL.of hacc, _, rfl, ?_⟩
          have ea : (s.map fun p => see p i).any id = s.any fun p => see p i := by rw [List.any_map]; rfl
          rw [ea]
          refine iteB (fun e => ?_) (fun e => ?_)
          · refine ⟨_, rfl, ?_⟩
            have kk := k _ e02
            unfold Geo.missM at kk
            rw [find_at (p := fun e => !(s.any fun p => see p e)) hi e hb] at kk
            rw [Int.zero_add]
            exact kk
          · exact ⟨e02, ⟨_, _, rfl⟩, upto hb e⟩
      · rintro σ H' ⟨e1, ⟨y3, y4, rfl⟩, hb⟩
        have kk := k _ e1
        unfold Geo.missM at kk
        rw [find_no (p := fun e => !(s.any fun p => see p e)) hb] at kk
        exact kk
theorem ok_fe (F : Fun K "fewest" "fewest" st_fewest f fd) (T : Txt mg) (TC : TxtC mg) (C1 : Cal P w K mg base 1 "rising_rows" ["count"] (spRr K)) (C2 : Cal P w K mg base 1 "first_missed" ["row", "covered", "count"] (spFm K)) : FnOk P w K mg base CX0 2 f fd ["covered", "count"] (spFe K) := by
  obtain ⟨f1, fd1, G1, m1, k1, b1⟩ := C1.ex
  obtain ⟨f2, fd2, G2, m2, k2, b2⟩ := C2.ex
  refine F.ok scFe (fun vs H Q E h => ?_) (fun cdv A outer s0 H vs Q E hr h => ?_)
  · obtain ⟨lc, np, ne, see, rfl, _⟩ := h
    rfl
  · obtain ⟨lc, np, ne, see, rfl, hC, hnp, hne, k⟩ := h
    refine ⟨_, pss_cons (ps_for PassesOwn.never rfl (pi_list (pe_call G1 hr rfl m1 k1 b1 .nil pass0 (pa_cons (pe_callB call_len_seq (by rfl) T.len PySem.boot_len (pa_cons (pv 0) pa_nil)) pa_nil))) (pg_name (i := 2) scFe.nd rfl (Or.inl rfl))
        (pss_one (ps_if (pt_cmpR op_isN (pe_call G2 hr rfl m2 k2 b2 .nil pass0 (pa_cons (pv 2) (pa_cons (pv 0) (pa_cons (pv 1) pa_nil)))) pe_non (nomark _)) (pss_one (ps_ret (pe_callTy call_list_of (by rfl) TC.list boot_listT (pa_cons (pv 2) pa_nil)))) pss_nil)))
      (pss_one (ps_ret pe_non)), ?_⟩
    have hC' := hC
    obtain ⟨vs, hvs, hvl, _⟩ := hC'
    refine ⟨_, rfl, lc, vs, rfl, .inl (SqL.of hvs), np, (by rw [hvl]; all_goals rfl), hnp, fun H1 l1 xs e1 _ hl1 hxs => ?_⟩
    refine ⟨l1, rfl, ⟨xs, SqL.of hl1⟩, for_list (K := K) (a := l1) (xs := xs) (fun i σ H' => Same H1 H' ∧ (∃ y2, σ = [some (.ref lc), some (.int ((ne : Nat) : Int)), y2]) ∧ ∀ (j : Nat) y, j < i → (Geo.risM np)[j]? = some y → (Geo.missM see ne y).isNone = false)
      ⟨Same.refl H1, ⟨_, rfl⟩, fun j y hj => by trivial⟩ (fun i σ H' _ ⟨e, _⟩ => SqL.of (e _ _ hl1)) ?_ ?_⟩
    · rintro i x σ H' hi ⟨e2, ⟨y2, rfl⟩, hb⟩
      obtain ⟨row, hrow, hrx⟩ := (hxs.mono e2).get hi
      have hmem := List.mem_of_getElem? hrow
      have hlen : row.length ≤ 100 := by
        unfold Geo.risM at hmem
        rw [List.mem_flatMap] at hmem
        obtain ⟨q, hq1, hq2⟩ := hmem
        have := List.mem_range.1 hq1
        rw [rise_row hq2]
        trivial
      obtain ⟨tr, rfl, str⟩ := hrx
      refine ⟨_, rfl, _, rfl, _, rfl, tr, lc, row, np, ne, see, rfl, .inr str, Geo.ris_mem hmem, hlen, (hC.mono e1).mono e2, hne, fun H3 e3 => ?_⟩
      have e13 := Same.trans e2 e3
      refine ⟨rfl, _, rfl, ?_⟩
      cases hm : Geo.missM see ne row with
      | none =>
        rw [decide_eq_true (show oV none = L2.V.non from rfl)]
        refine iteT ?_
        refine ⟨_, rfl, tr, _, rfl, .inr (Same.tup e3 str), fun l hl => k _ _ (Same.upd (Same.trans e1 e13) hl) ?_⟩
        have : Geo.fewM see np ne = some row := find_list hrow (by rw [hm]; rfl) hb
        rw [this]
        exact ⟨l, rfl, upd_same⟩
      | some j =>
        rw [decide_eq_false (show ¬ oV (some j) = L2.V.non by intro q; cases q)]
        refine iteF ?_
        refine ⟨e13, ⟨_, rfl⟩, fun j' y hj hy => ?_⟩
        by_cases h : j' < i
        · exact hb j' y h hy
        · have : j' = i := by trivial
          subst this
          rw [hrow] at hy
          cases hy
          rw [hm]; rfl
    · rintro σ H' ⟨e2, ⟨y2, rfl⟩, hb⟩
      refine k _ _ (Same.trans e1 e2) ?_
      have : Geo.fewM see np ne = none := find_listN (fun j y hj hy => hb j y (by rw [hxs.1]; exact hj) hy)
      rw [this]
      rfl
theorem ok_cv (F : Fun K "cover" "cover" st_cover f fd) (T : Txt mg) (TC : TxtC mg) (TR : TxtR mg) (TEc : TxtE mg) (C1 : Cal P w K mg base 7 "refusal" ["s", "is_right", "room", "book"] (spRe K)) (C2 : Cal P w K mg base 1 "are_points_right" ["row", "least", "largest"] (spPr K))
    (C3 : Cal P w K mg base 1 "points_of" ["row"] (spPs K)) (C4 : Cal P w K mg base 5 "clear_from" ["s", "places", "room"] (spCf K)) (C5 : Cal P w K mg base 2 "fewest" ["covered", "count"] (spFe K)) (C6 : Cal P w K mg base 1 "first_missed" ["row", "covered", "count"] (spFm K)) :
    FnOk P w K mg base CX0 8 f fd ["room", "places", "ears"] (spCv K) := by
  obtain ⟨f1, fd1, G1, m1, k1, b1⟩ := C1.ex
  obtain ⟨f2, fd2, G2, m2, k2, b2⟩ := C2.ex
  obtain ⟨f3, fd3, G3, m3, k3, b3⟩ := C3.ex
  obtain ⟨f4, fd4, G4, m4, k4, b4⟩ := C4.ex
  obtain ⟨f5, fd5, G5, m5, k5, b5⟩ := C5.ex
  obtain ⟨f6, fd6, G6, m6, k6, b6⟩ := C6.ex
  obtain ⟨t8, m8⟩ := TR.places
  obtain ⟨t16, m16⟩ := TEc.ears
  refine F.ok scCv (fun vs H Q E h => ?_) (fun cdv A outer s0 H vs Q E hr h => ?_)
  · obtain ⟨v, vp, ve, ns, ps, es, rfl, _⟩ := h
    rfl
  · obtain ⟨v, vp, ve, ns, ps, es, rfl, hR, hP, hE, rP, rE, k⟩ := h
    have hr1 : Room 1 _ := hr.mono (by decide)
    have hr2 : Room 2 _ := hr.mono (by decide)
    have hr5 : Room 5 _ := hr.mono (by decide)
    refine ⟨_, pss_cons (ps_set (i := 3) scCv.nd rfl (Or.inl rfl) (pe_and (pe_call G2 hr1 rfl m2 k2 b2 .nil pass0 (pa_cons (pv 1) (pa_cons pe_int (pa_cons (pe_glob (v := .int 8) rfl m8 ⟨_, rfl⟩) pa_nil)))) (pe_one (pe_call G2 hr1 rfl m2 k2 b2 .nil pass0 (pa_cons (pv 2) (pa_cons pe_int (pa_cons (pe_glob (v := .int 16) rfl m16 ⟨_, rfl⟩) pa_nil)))))))
      (pss_cons (ps_set (i := 4) scCv.nd rfl (Or.inl rfl) (pe_call G1 hr rfl m1 k1 b1 .nil pass0 (pa_cons pe_non (pa_cons (pv 3) (pa_cons (pv 0) (pa_cons pe_non pa_nil))))))
      (pss_cons (ps_if (pt_cmpR op_notN (pv 4) pe_non (nomark _)) (pss_one (ps_ret (pv 4))) pss_nil)
      (pss_cons (ps_set (i := 5) scCv.nd rfl (Or.inr rfl) (pe_call G3 hr1 rfl m3 k3 b3 .nil pass0 (pa_cons (pv 2) pa_nil)))
      (pss_cons (ps_setLc (i := 6) (own := [("place", 8)]) rfl scCv.nd rfl rfl (sw_true rfl rfl rfl (by decide +kernel)) (pi_list (pe_call G3 hr1 rfl m3 k3 b3 .nil pass0 (pa_cons (pv 1) pa_nil))) (blkOk_by blkCv)
        (fun _ _ _ _ _ => pg_name (i := 8) scCv.nd rfl (Or.inl rfl)) (fun _ _ _ _ _ => pts_nil) (fun _ _ _ _ _ => pe_call G4 hr5 rfl m4 k4 b4 .nil pass0 (pa_cons (pv 8) (pa_cons (pv 5) (pa_cons (pv 0) pa_nil)))))
      (pss_cons (ps_set (i := 7) scCv.nd rfl (Or.inl rfl) (pe_call G5 hr2 rfl m5 k5 b5 .nil pass0 (pa_cons (pv 6) (pa_cons (pe_callB call_len_seq (by rfl) T.len PySem.boot_len (pa_cons (pv 5) pa_nil)) pa_nil))))
      (pss_cons (ps_if (pt_cmpR op_isN (pv 7) pe_non (nomark _)) (pss_one (ps_ret (pe_lst (pa_cons (pe_un un_neg pe_int) (pa_cons (pe_call G6 hr1 rfl m6 k6 b6 .nil pass0
        (pa_cons (pe_listrange rfl rfl TC.list rfl T.range (pa_cons (pe_callB call_len_seq (by rfl) T.len PySem.boot_len (pa_cons (pv 6) pa_nil)) pa_nil)) (pa_cons (pv 6) (pa_cons (pe_callB call_len_seq (by rfl) T.len PySem.boot_len (pa_cons (pv 5) pa_nil)) pa_nil)))) pa_nil))))) pss_nil)
      (pss_one (ps_ret (pe_op op_cat (pe_lst (pa_cons pe_int pa_nil)) (pv 7)))))))))), ?_⟩
    rw [cover_ref] at k
    refine ⟨_, rfl, vp, ps, 0, 8, rfl, hP, _, rfl, and2 (b := Geo.rowM es 1 16) (fun R q => ⟨_, rfl, ve, es, 1, 16, rfl, hE, q⟩) ?_⟩
    refine ⟨_, rfl, _, rfl, .non, v, .non, none, _, ns, none, rfl, rfl, hR, rfl, fun H2 xr e2 hxr => ?_⟩
    refine ⟨_, rfl, rfl, _, rfl, ?_⟩
    cases er : refO none (Geo.rowM ps 0 8 && Geo.rowM es 1 16) ns none with
    | some r =>
      rw [er] at hxr k
      obtain ⟨a, rfl, ha⟩ := hxr
      rw [decide_eq_false (show ¬ L2.V.ref a = L2.V.non by intro q; cases q)]
      refine iteT ?_
      exact ⟨_, rfl, k _ a ha⟩
    | none =>
      rw [er] at hxr k
      have hx' : xr = .non := hxr
      subst hx'
      rw [decide_eq_true (show L2.V.non = L2.V.non from rfl)]
      refine iteF ?_
      obtain ⟨ef, hrt⟩ := ref_okC er
      rw [Bool.and_eq_true] at hrt
      obtain ⟨lp1, _, lp2⟩ := row_of hrt.1
      obtain ⟨le1, _, le2⟩ := row_of hrt.2
      refine ⟨_, rfl, ve, es, es.length / 3, rfl, hE.mono e2, le1, by trivial, fun H3 ll e3 _ hLi => ?_⟩
      have e13 := Same.trans e2 e3
      refine ⟨_, rfl, vp, ps, ps.length / 3, rfl, hP.mono e13, lp1, by trivial, fun H4 lp e4 _ hPl => ?_⟩
      obtain ⟨xs, hlp, hxl, hxp⟩ := hPl
      obtain ⟨ys, hll, hyl, hyp⟩ := hLi
      have e14 := Same.trans e13 e4
      refine ⟨lp, rfl, ⟨xs, SqL.of hlp⟩, fun D hD => lc_list (K := K) (a := lp) (xs := xs) (fun i H' => Same H4 H' ∧ ∃ acc, H' D = some (.lst acc) ∧ acc.length = i ∧ ∀ (j : Nat) x, acc[j]? = some x → ∃ a, x = L2.V.ref a ∧ a ≠ D ∧ H' a = some (.lst (natV ((List.range (es.length / 3)).filter fun e => Geo.seesM ns (Geo.ptM ps j) (Geo.ptM es e))))) ?_ (fun i H' _ ⟨e5, _⟩ => SqL.of (e5 _ _ hlp)) ?_ ?_⟩
      · exact ⟨Same.set hD (Same.refl _), [], upd_same, rfl, fun j x h => by simp at h⟩
      · rintro i x H' hi ⟨e5, acc, hacc, hal, hall⟩
        have hiN : i < ps.length / 3 := by rw [← hxl]; exact (List.getElem?_eq_some_iff.1 hi).1
        obtain ⟨px, cx⟩ := hxp i x hi
        have e45 := Same.trans e4 e5
        refine ⟨rfl, ?_⟩
        refine ⟨_, rfl, _, rfl, _, rfl, x, ll, v, ptX ps i, ptZ ps i, es.length / 3, ptX es, ptZ es, ns, rfl, px.mono e5, cx.mono e5, row_bt rP i, ⟨ys, e45 _ _ hll, hyl, fun j y hy => ⟨(hyp j y hy).1.mono e45, (hyp j y hy).2.mono e45⟩⟩, by trivial, fun j _ => row_bt rE j, (hR.mono e14).mono e5, ef, fun H6 l6 e6 hn6 hl6 => ?_⟩
        rw [clearL_see] at hl6
        have hd6 := e6 _ _ hacc
        have hne : l6 ≠ D := fun q => by rw [q, hacc] at hn6; cases hn6
        refine ⟨acc, hd6, by rw [hal]; exact Nat.lt_of_lt_of_le (show i < 300 by trivial) (by decide), Same.set hD (Same.trans e5 e6), _, upd_same, by rw [List.length_append, hal]; rfl, fun j y hy => ?_⟩
        rcases snoc_get hy with ⟨_, hy⟩ | ⟨hj, rfl⟩
        · obtain ⟨a, ea, an, ha⟩ := hall j y hy
          exact ⟨a, ea, an, by rw [upd_ne an]; exact e6 _ _ ha⟩
        · rw [hal] at hj
          subst hj
          exact ⟨l6, rfl, hne, by rw [upd_ne hne]; exact hl6⟩
      · rintro H5 ⟨e5, acc, hacc, hal, hall⟩
        rw [hxl] at hal
        have hC : CovAt K H5 D (ps.length / 3) (es.length / 3) (fun i j => Geo.seesM ns (Geo.ptM ps i) (Geo.ptM es j)) := ⟨acc, hacc, hal, fun i x hx => by
          obtain ⟨a, ea, _, ha⟩ := hall i x hx
          exact ⟨a, ea, ha⟩⟩
        have hll5 := e5 _ _ (e4 _ _ hll)
        refine ⟨_, rfl, _, rfl, ll, ys, rfl, .inl (SqL.of hll5), D, ps.length / 3, es.length / 3, _, (by rw [hyl]; all_goals rfl), hC, lp2, by trivial, fun H6 xc e6 hxc => ?_⟩
        refine ⟨_, rfl, rfl, _, rfl, ?_⟩
        cases ew : Geo.fewM (fun i j => Geo.seesM ns (Geo.ptM ps i) (Geo.ptM es j)) (ps.length / 3) (es.length / 3) with
        | some s =>
          rw [ew] at hxc k
          obtain ⟨a, rfl, ha⟩ := hxc
          rw [decide_eq_false (show ¬ L2.V.ref a = L2.V.non by intro q; cases q)]
          refine iteF ?_
          refine ⟨(by show 1 ≤ sizeLine; decide), fun l0 hl0 => ?_⟩
          have e7 := Same.upd (Same.refl H6) hl0 (o := .lst [.int 0])
          refine ⟨_, rfl, l0, a, _, _, rfl, rfl, upd_same, e7 _ _ ha, ?_, fun p hp => k _ p ?_⟩
          · have hs := List.mem_of_find?_eq_some ew
            unfold Geo.risM at hs
            rw [List.mem_flatMap] at hs
            obtain ⟨q, hq1, hq2⟩ := hs
            have := List.mem_range.1 hq1
            rw [natV_len, rise_row hq2]
            exact Nat.le_trans (show 1 + q ≤ 300 by trivial) (by decide)
          · rw [upd_same]
            unfold natV
            rw [List.map_cons, List.map_map]
            rfl
        | none =>
          rw [ew] at hxc k
          have hx' : xc = .non := hxc
          subst hx'
          rw [decide_eq_true (show L2.V.non = L2.V.non from rfl)]
          refine iteT ?_
          obtain ⟨e, he, _⟩ := Geo.few_none ew
          rw [he] at k
          refine ⟨_, rfl, _, rfl, D, acc, rfl, .inl (SqL.of (e6 _ _ hacc)), ps.length / 3, (by rw [hal]; all_goals rfl), by trivial, fun l7 hl7 => ?_⟩
          have e7 := Same.upd (Same.refl H6) hl7 (o := .lst (natV (List.range (ps.length / 3))))
          have e57 := Same.trans e6 e7
          refine ⟨_, rfl, _, rfl, ll, ys, rfl, .inl (SqL.of (e57 _ _ hll5)), l7, D, List.range (ps.length / 3), ps.length / 3, es.length / 3, _, (by rw [hyl]; all_goals rfl), .inl (SqL.of upd_same), fun i hi => List.mem_range.1 hi, by rw [List.length_range]; trivial, hC.mono e57, by trivial, fun H8 e8 => ?_⟩
          rw [he]
          refine ⟨(by show 2 ≤ sizeLine; decide), fun l9 hl9 => k _ l9 ?_⟩
          rw [upd_same]
          rfl
end
end
end Pr
end
section
set_option Elab.async false
set_option linter.all false
set_option maxRecDepth 100000
set_option maxHeartbeats 2000000
namespace Pr
open PySem PySem.Spec PyProof.Rows L2
structure Def (K : PySem.W.Frag) (mg : Str → Option Value) (x : Str) (st : Stmt) : Prop where
  ex : ∃ f fd, Fun K x x st f fd ∧ mg x = some (.ref f)
theorem def_mk {K : PySem.W.Frag} {h : Heap} {mg : Str → Option Value} {x : Str} {st : Stmt} {f : Addr} {oc : Value} {od an : Option Addr} {osl : Array (Option Value)} {kV doc pm cdv ct : Value} (X : K.In h) (G : h.Ns mainGlobals mg)
    (a : PySem.W.nsIn K mainGlobals x = some (some (.ref f))) (l : K.lookup f = some ⟨oc, od, .func (PySem.W.fnOf x x (defArgs st) (defBody st) (defScope st) .none kV doc pm an cdv ct), osl⟩)
    (c : PySem.W.codeIn K cdv x = true) (k : PySem.W.keepIn K (.ref f) = true) : Def K mg x st := ⟨f, _, fun_mk (st := st) l c k, PySem.W.mg_of X G a⟩
def AllLen (P : List Value → Prop) : Nat → Prop
  | 0 => P []
  | n + 1 => ∀ a, AllLen (fun l => P (a :: l)) n
theorem allLen : ∀ (n : Nat) (P : List Value → Prop), AllLen P n → ∀ us, us.length = n → P us
  | 0, P, h, [], _ => h
  | n + 1, P, h, a :: l, e => allLen n (fun l => P (a :: l)) (h a) l (Nat.succ.inj e)
theorem Def.cal {K : PySem.W.Frag} {mg : Str → Option Value} {x : Str} {st : Stmt} {n : Nat} {ps : List Str} {sp : Sp} (D : Def K mg x st) (P : Program) (w : World) (base : Heap) (k : ∀ f fd, Fun K x x st f fd → FnOk P w K mg base CX0 n f fd ps sp)
    (b : ∀ (kV doc pm : Value) (an : Option Addr) (cdv ct : Value), AllLen (fun us => bindArgs (PySem.W.fnOf x x (defArgs st) (defBody st) (defScope st) .none kV doc pm an cdv ct) ⟨us, []⟩ = pure (ps.zip us)) ps.length) : Cal P w K mg base n x ps sp := by
  obtain ⟨f, fd, F, m⟩ := D.ex
  exact ⟨f, fd, k f fd F, m, F.kp, F.binds fun kV doc pm an cdv ct us hl => allLen _ _ (b kV doc pm an cdv ct) us hl⟩
theorem fun_top {K : PySem.W.Frag} {x : Str} {st : Stmt} {ps : List Str} {f : Addr} {fd : FuncData} (F : Fun K x x st f fd)
    (b : ∀ (kV doc pm : Value) (an : Option Addr) (cdv ct : Value), AllLen (fun us => bindArgs (PySem.W.fnOf x x (defArgs st) (defBody st) (defScope st) .none kV doc pm an cdv ct) ⟨us, []⟩ = pure (ps.zip us)) ps.length) :
    ∀ (s : Shared) (us : List Value), us.length = ps.length → BindsTo s fd ⟨us, []⟩ (ps.zip us) := by
  obtain ⟨oc, od, kV, doc, pm, an, cdv, ct, osl, rfl, lk, hcd⟩ := F.ex
  exact fun s us hu => .of_eq (allLen _ _ (b kV doc pm an cdv ct) us hu)
theorem mk_Txt {K : PySem.W.Frag} {h : Heap} {mg : Str → Option Value} {t0 : Tok} {t1 : Tok} {t2 : Tok} {t3 : Tok} {t4 : Tok} (X : K.In h) (G : h.Ns mainGlobals mg) (a0 : PySem.W.nsIn K mainGlobals "HEAD" = some (some (.int 3 t0))) (a1 : PySem.W.nsIn K mainGlobals "LEAST_CORNERS" = some (some (.int 3 t1))) (a2 : PySem.W.nsIn K mainGlobals "MOST_CORNERS" = some (some (.int 64 t2))) (a3 : PySem.W.nsIn K mainGlobals "LARGEST_LENGTH" = some (some (.int 4095 t3))) (a4 : PySem.W.nsIn K mainGlobals "LARGEST_STUFF" = some (some (.int 7 t4))) (b0 : PySem.W.nsIn K mainGlobals "range" = some none) (b1 : PySem.W.nsIn K mainGlobals "len" = some none) (b2 : PySem.W.nsIn K mainGlobals "min" = some none) (b3 : PySem.W.nsIn K mainGlobals "max" = some none) (b4 : PySem.W.nsIn K mainGlobals "abs" = some none) (b5 : PySem.W.nsIn K mainGlobals "sum" = some none) (b6 : PySem.W.nsIn K mainGlobals "enumerate" = some none) : Txt mg :=
  ⟨⟨_, PySem.W.mg_of X G a0⟩, ⟨_, PySem.W.mg_of X G a1⟩, ⟨_, PySem.W.mg_of X G a2⟩, ⟨_, PySem.W.mg_of X G a3⟩, ⟨_, PySem.W.mg_of X G a4⟩, PySem.W.mg_none_of X G b0, PySem.W.mg_none_of X G b1, PySem.W.mg_none_of X G b2, PySem.W.mg_none_of X G b3, PySem.W.mg_none_of X G b4, PySem.W.mg_none_of X G b5, PySem.W.mg_none_of X G b6⟩
theorem mk_TxtB {K : PySem.W.Frag} {h : Heap} {mg : Str → Option Value} {t0 : Tok} {t1 : Tok} (X : K.In h) (G : h.Ns mainGlobals mg) (a0 : PySem.W.nsIn K mainGlobals "BOOK_NUMBERS" = some (some (.int 36 t0))) (a1 : PySem.W.nsIn K mainGlobals "WHOLE_PART" = some (some (.int 32768 t1)))  : TxtB mg :=
  ⟨⟨_, PySem.W.mg_of X G a0⟩, ⟨_, PySem.W.mg_of X G a1⟩⟩
theorem mk_TxtC {K : PySem.W.Frag} {h : Heap} {mg : Str → Option Value} (X : K.In h) (G : h.Ns mainGlobals mg)  (b0 : PySem.W.nsIn K mainGlobals "list" = some none) (b1 : PySem.W.nsIn K mainGlobals "any" = some none) : TxtC mg :=
  ⟨PySem.W.mg_none_of X G b0, PySem.W.mg_none_of X G b1⟩
theorem mk_TxtR {K : PySem.W.Frag} {h : Heap} {mg : Str → Option Value} {t0 : Tok} (X : K.In h) (G : h.Ns mainGlobals mg) (a0 : PySem.W.nsIn K mainGlobals "MOST_PLACES" = some (some (.int 8 t0)))  : TxtR mg :=
  ⟨⟨_, PySem.W.mg_of X G a0⟩⟩
theorem mk_TxtE {K : PySem.W.Frag} {h : Heap} {mg : Str → Option Value} {t0 : Tok} (X : K.In h) (G : h.Ns mainGlobals mg) (a0 : PySem.W.nsIn K mainGlobals "MOST_EARS_TO_COVER" = some (some (.int 16 t0)))  : TxtE mg :=
  ⟨⟨_, PySem.W.mg_of X G a0⟩⟩
section
variable {P : Program} {w : World} {K : PySem.W.Frag} {mg : Str → Option Value}
theorem all_ok {fa : Addr} (hfa : mg "cover" = some (.ref fa)) (T : Txt mg) (TB : TxtB mg) (TC : TxtC mg) (TR : TxtR mg) (TEc : TxtE mg)
    (D_is_length_right : Def K mg "is_length_right" st_is_length_right)
    (D_is_stuff : Def K mg "is_stuff" st_is_stuff)
    (D_is_head_right : Def K mg "is_head_right" st_is_head_right)
    (D_is_corner_right : Def K mg "is_corner_right" st_is_corner_right)
    (D_wrong_corner : Def K mg "wrong_corner" st_wrong_corner)
    (D_is_direction_right : Def K mg "is_direction_right" st_is_direction_right)
    (D_wrong_direction : Def K mg "wrong_direction" st_wrong_direction)
    (D_side : Def K mg "side" st_side)
    (D_straight_corner : Def K mg "straight_corner" st_straight_corner)
    (D_spans_meet : Def K mg "spans_meet" st_spans_meet)
    (D_lines_meet : Def K mg "lines_meet" st_lines_meet)
    (D_meets_far_line : Def K mg "meets_far_line" st_meets_far_line)
    (D_crossed_line : Def K mg "crossed_line" st_crossed_line)
    (D_is_room_left : Def K mg "is_room_left" st_is_room_left)
    (D_lines_fault : Def K mg "lines_fault" st_lines_fault)
    (D_corners_of : Def K mg "corners_of" st_corners_of)
    (D_lines_of : Def K mg "lines_of" st_lines_of)
    (D_room_fault : Def K mg "room_fault" st_room_fault)
    (D_book_fault : Def K mg "book_fault" st_book_fault)
    (D_is_within : Def K mg "is_within" st_is_within)
    (D_is_inside : Def K mg "is_inside" st_is_inside)
    (D_refusal : Def K mg "refusal" st_refusal)
    (D_are_points_right : Def K mg "are_points_right" st_are_points_right)
    (D_points_of : Def K mg "points_of" st_points_of)
    (D_is_clear : Def K mg "is_clear" st_is_clear)
    (D_clear_from : Def K mg "clear_from" st_clear_from)
    (D_rising_rows : Def K mg "rising_rows" st_rising_rows)
    (D_first_missed : Def K mg "first_missed" st_first_missed)
    (D_fewest : Def K mg "fewest" st_fewest)
    (D_cover : Def K mg "cover" st_cover)
    : ∃ fd : FuncData, (∀ (s : Shared) (us : List Value), us.length = (["room", "places", "ears"] : List Str).length → BindsTo s fd ⟨us, []⟩ ((["room", "places", "ears"] : List Str).zip us)) ∧ ∀ base : Heap, K.In base → base.Ns mainGlobals mg → FnOk P w K mg base CX0 8 fa fd ["room", "places", "ears"] (spCv K) := by
  obtain ⟨f_top, fd_top, F_top, m_top⟩ := D_cover.ex
  have e := hfa.symm.trans m_top
  cases e
  refine ⟨fd_top, ?_, fun base _ _ => ?_⟩
  · exact fun_top F_top fun _ _ _ _ _ _ _ _ _ => rfl
  · have C_is_length_right := D_is_length_right.cal P w base (fun _ _ F => ok_len F T) fun _ _ _ _ _ _ _ => rfl
    have C_is_stuff := D_is_stuff.cal P w base (fun _ _ F => ok_stuff F T) fun _ _ _ _ _ _ _ => rfl
    have C_is_head_right := D_is_head_right.cal P w base (fun _ _ F => ok_head F T C_is_stuff) fun _ _ _ _ _ _ _ => rfl
    have C_is_corner_right := D_is_corner_right.cal P w base (fun _ _ F => ok_corner F T C_is_stuff) fun _ _ _ _ _ _ _ _ _ => rfl
    have C_wrong_corner := D_wrong_corner.cal P w base (fun _ _ F => ok_wc F T C_is_corner_right) fun _ _ _ _ _ _ _ => rfl
    have C_is_direction_right := D_is_direction_right.cal P w base (fun _ _ F => ok_dir F T) fun _ _ _ _ _ _ _ => rfl
    have C_wrong_direction := D_wrong_direction.cal P w base (fun _ _ F => ok_wd F T C_is_direction_right) fun _ _ _ _ _ _ _ => rfl
    have C_side := D_side.cal P w base (fun _ _ F => ok_side F ) fun _ _ _ _ _ _ _ _ _ => rfl
    have C_straight_corner := D_straight_corner.cal P w base (fun _ _ F => ok_sc F T C_side) fun _ _ _ _ _ _ _ => rfl
    have C_spans_meet := D_spans_meet.cal P w base (fun _ _ F => ok_spans F T) fun _ _ _ _ _ _ _ _ _ _ _ => rfl
    have C_lines_meet := D_lines_meet.cal P w base (fun _ _ F => ok_meet F C_spans_meet C_side) fun _ _ _ _ _ _ _ _ _ _ => rfl
    have C_meets_far_line := D_meets_far_line.cal P w base (fun _ _ F => ok_mf F T C_lines_meet) fun _ _ _ _ _ _ _ _ => rfl
    have C_crossed_line := D_crossed_line.cal P w base (fun _ _ F => ok_cl F T C_meets_far_line) fun _ _ _ _ _ _ _ => rfl
    have C_is_room_left := D_is_room_left.cal P w base (fun _ _ F => ok_rl F T) fun _ _ _ _ _ _ _ => rfl
    have C_lines_fault := D_lines_fault.cal P w base (fun _ _ F => ok_lf F C_wrong_direction C_straight_corner C_crossed_line C_is_room_left) fun _ _ _ _ _ _ _ => rfl
    have C_corners_of := D_corners_of.cal P w base (fun _ _ F => ok_corners F T) fun _ _ _ _ _ _ _ => rfl
    have C_lines_of := D_lines_of.cal P w base (fun _ _ F => ok_lines F T C_corners_of) fun _ _ _ _ _ _ _ => rfl
    have C_room_fault := D_room_fault.cal P w base (fun _ _ F => ok_rf F C_is_length_right C_is_head_right C_wrong_corner C_lines_fault C_lines_of) fun _ _ _ _ _ _ _ => rfl
    have C_book_fault := D_book_fault.cal P w base (fun _ _ F => ok_bf F T TB) fun _ _ _ _ _ _ _ => rfl
    have C_is_within := D_is_within.cal P w base (fun _ _ F => ok_wi F C_lines_meet C_side) fun _ _ _ _ _ _ _ _ => rfl
    have C_is_inside := D_is_inside.cal P w base (fun _ _ F => ok_in F C_is_within) fun _ _ _ _ _ _ _ _ _ => rfl
    have C_refusal := D_refusal.cal P w base (fun _ _ F => ok_re F C_room_fault C_book_fault C_lines_of C_is_inside) fun _ _ _ _ _ _ _ _ _ _ => rfl
    have C_are_points_right := D_are_points_right.cal P w base (fun _ _ F => ok_pr F T) fun _ _ _ _ _ _ _ _ _ => rfl
    have C_points_of := D_points_of.cal P w base (fun _ _ F => ok_ps F T) fun _ _ _ _ _ _ _ => rfl
    have C_is_clear := D_is_clear.cal P w base (fun _ _ F => ok_cr F C_lines_meet) fun _ _ _ _ _ _ _ _ _ => rfl
    have C_clear_from := D_clear_from.cal P w base (fun _ _ F => ok_cf F T C_lines_of C_is_inside C_is_clear) fun _ _ _ _ _ _ _ _ _ => rfl
    have C_rising_rows := D_rising_rows.cal P w base (fun _ _ F => ok_rr F T TC) fun _ _ _ _ _ _ _ => rfl
    have C_first_missed := D_first_missed.cal P w base (fun _ _ F => ok_fm F T TC) fun _ _ _ _ _ _ _ _ _ => rfl
    have C_fewest := D_fewest.cal P w base (fun _ _ F => ok_fe F T TC C_rising_rows C_first_missed) fun _ _ _ _ _ _ _ _ => rfl
    exact ok_cv F_top T TC TR TEc C_refusal C_are_points_right C_points_of C_clear_from C_fewest C_first_missed
end
end Pr
end
section
open PySem PySem.W PyProof.Rows
namespace PySem.W.Fast
def tw8731122946746230590:=()
def tw14708859504164011678:=()
def tw12160001212636683376:=()
def tw11048177533306367844:=()
def tw7648764944771320789:=()
def tw6722968662214530685:=()
def tw8601495290503181361:=()
def tw14349990336575634963:=()
def tw1577285020869964963:=()
def tw117549111471477979:=()
def tw18237755313162940788:=()
def tw12589105507030152353:=()
def tw4259508493286254776:=()
def tw2320898736606563199:=()
def tw10779146006682926672:=()
def tw7997868169419658616:=()
def tw5140794360517962461:=()
def tw10378132142216320175:=()
def tw16120424071177965187:=()
def tw5866821398446626554:=()
def tw5896104815593107629:=()
def tw980900036658694873:=()
def tw14772392494089680330:=()
def tw8540350910858191013:=()
def tw10823452532017300358:=()
def tw13439562266364110951:=()
def tw16824062734731311659:=()
def tw3755461477663967271:=()
def tw15512952621495813313:=()
def tw11926348041616181118:=()
def tw8288606585494057645:=()
def tw14907726805243173336:=()
def tw16713352525224854071:=()
def tw17333790500952709812:=()
def tw8824204478518769928:=()
def tw7928546941306144738:=()
def tw7997656037173503053:=()
def tw3288230104815321230:=()
def tw14591532776703364366:=()
def tw15652740520773591832:=()
def tw386583209735289246:=()
def tw3241208411012662472:=()
def tw2735819683427704146:=()
def tw5279835538277234912:=()
def tw9453095323719791979:=()
def tw2984802991944386429:=()
def tw1605771576213419077:=()
def tw17239567198400383669:=()
def tw6212625524568485833:=()
def tw16753760672225908203:=()
def tw9721688629893770407:=()
def tw16719183160025295096:=()
def tw13629884793605538356:=()
def tw1433739946354739920:=()
def tw15630029869975079124:=()
def tw3059149302484328917:=()
def tw10298897830507870170:=()
def tw17808081161125964702:=()
def tw8739837970672856631:=()
def tw8701487297926183885:=()
def tw9397023495675045355:=()
def tw9322736515206521864:=()
def tw10861021744999026083:=()
def tw17589703703359987734:=()
def tw14001127299549617832:=()
def tw15778615817291830316:=()
def tw16018354646227673752:=()
def tw224967237001423104:=()
def tw13515668710240376320:=()
def tw10370997342183338404:=()
def tw4864880986702267498:=()
def tw6434770613997327756:=()
def tw3507827243872424405:=()
def tw13712908478624987944:=()
def tw14709736633427537502:=()
def tw6372069299860808754:=()
def tw70798319631546741:=()
def tw669241297639233255:=()
def tw14999991358735525421:=()
def tw12717985294616322732:=()
def tw4076206337294836814:=()
def tw4856987571898171250:=()
def tw3291736260815137269:=()
def tw6359167289859799705:=()
def tw10242929273199650468:=()
def tw5455877441030972857:=()
def tw14231926977012980574:=()
def tw2716573739500060367:=()
def tw6494083315418004263:=()
def tw12473949916893677074:=()
def tw543815765540982748:=()
def tw12113005627919664349:=()
def tw9642160785063967107:=()
def tw6657667855501283992:=()
def tw2556604607780934564:=()
def tw13551603185312963149:=()
def tw2525306035530950478:=()
def tw14433438777152859009:=()
def tw1643025211186410512:=()
def tw16746359510871028824:=()
def tw15531981371471295873:=()
def tw11024030912093779318:=()
def tw2156275454482222258:=()
def tw2350325424879662687:=()
def tw6345739401685024881:=()
def tw15925411750335995961:=()
def tw551620396692799886:=()
def tw14388186004266572003:=()
def tw2106418047525634761:=()
def tw10598034408669168219:=()
def tw8712068853344034219:=()
def tw8272887151112176325:=()
def tw17107067282563042571:=()
def tw8924543207768134465:=()
def tw9252475538116512388:=()
def tw4585610886228935015:=()
def tw15741521083640848041:=()
def tw3193015963614345345:=()
def tw3795848961837396579:=()
def tw8292189434052484305:=()
def tw5816319612553478562:=()
def tw8572648570114520424:=()
def tw14618561813850581785:=()
def tw11843491762105244705:=()
def tw6691756163284456342:=()
def tw895343709874216327:=()
def tw2588567674709087680:=()
def tw9624443878085773339:=()
def tw15292149075748095981:=()
def tw7634295455206767467:=()
def tw16677318781627855319:=()
def tw3360138159563303444:=()
def tw6966076682160593362:=()
def tw2026879500027991053:=()
def tw2457404022892648469:=()
def tw737424163341103501:=()
def tw92865843163203656:=()
def tw875602484067014671:=()
def tw11399145444254714892:=()
def tw13966347464609231510:=()
def tw9319001207178448040:=()
def tw4358787701461935415:=()
theorem te4610764023340556380 : True := ⟨⟩
def tw11622364610643130041:=()
def tw93035826562207987:=()
def tw4884366892885378588:=()
def tw9232780078479287736:=()
def tw7804623041621377971:=()
def tw12586039176966961076:=()
def tw8264333884610178438:=()
def tw1975386531718466624:=()
def tw7872309761797924153:=()
def tw3166918154818230940:=()
def tw2106078908815189898:=()
def tw15149929483308890419:=()
def tw9535718192311833779:=()
def tw974163343483408346:=()
def tw13380345816379926750:=()
def tw4415086562821887317:=()
def tw7140550190962805266:=()
def tw9585393234944168430:=()
def tw10083705690967227789:=()
def tw4079315735587817576:=()
def tw15539753787800963655:=()
def tw14491614533235387143:=()
def tw14051778577630098146:=()
def tw5794734362858228958:=()
def tw18434029353616124179:=()
def tw15205212534756977585:=()
def tw13546494646620168311:=()
def tw9772322475019116574:=()
def tw6894291170599626004:=()
def tw11648523540472925676:=()
def tw8175349890016834108:=()
def tw15960744531283878374:=()
def tw13649571669679700126:=()
def tw18168238267451377964:=()
def tw15910108148950609133:=()
def tw4242663601746337826:=()
def tw15302153194202737348:=()
def tw16324883757210989316:=()
def tw6793235862565084069:=()
def tw18076481630704190423:=()
def tw9789790607718002089:=()
def tw275687252127706075:=()
def tw13541826764871069239:=()
def tw9513097709627211142:=()
def tw10225173626475493829:=()
def tw2040066493846874716:=()
end PySem.W.Fast
set_option Elab.async false
set_option maxRecDepth 100000 in
set_option maxHeartbeats 0 in
theorem PySem.Challenge.cw_hearingplaces_s05_cover_holds : PySem.Challenge.rw_hearingplaces_s05_cover.Holds := by
  w_on; k_headS; (case hw => exact ⟨[.list [], .list [], .list []], by decide +kernel, by decide +kernel⟩)
  k_fillS
  refine L2.walk_specK (r := PySem.Challenge.rw_hearingplaces_s05_cover) (k := 8) (CX := L2.CX0) (ps := ["room", "places", "ears"]) (sp := Pr.spCv) (by decide +kernel) rfl rfl ⟨rfl, by decide, by decide⟩ (fun w h Y => PySem.W.kIn_of Y) ?F ?S (fun _ _ _ _ z => z)
  case F =>
    intro w mg fa h Y KX G hmg
    have T : Pr.Txt mg := by
      refine' Pr.mk_Txt KX G ?h0 ?h1 ?h2 ?h3 ?h4 ?h5 ?h6 ?h7 ?h8 ?h9 ?h10 ?h11
      (case h0 => k_is)
      (case h1 => k_is)
      (case h2 => k_is)
      (case h3 => k_is)
      (case h4 => k_is)
      (case h5 => k_is)
      (case h6 => k_is)
      (case h7 => k_is)
      (case h8 => k_is)
      (case h9 => k_is)
      (case h10 => k_is)
      (case h11 => k_is)
    have TB : Pr.TxtB mg := by
      refine' Pr.mk_TxtB KX G ?h0 ?h1
      (case h0 => k_is)
      (case h1 => k_is)
    have TC : Pr.TxtC mg := by
      refine' Pr.mk_TxtC KX G ?h0 ?h1
      (case h0 => k_is)
      (case h1 => k_is)
    have TR : Pr.TxtR mg := by
      refine' Pr.mk_TxtR KX G ?h0
      (case h0 => k_is)
    have TEc : Pr.TxtE mg := by
      refine' Pr.mk_TxtE KX G ?h0
      (case h0 => k_is)
    refine' Pr.all_ok hmg T TB TC TR TEc ?D_is_length_right ?D_is_stuff ?D_is_head_right ?D_is_corner_right ?D_wrong_corner ?D_is_direction_right ?D_wrong_direction ?D_side ?D_straight_corner ?D_spans_meet ?D_lines_meet ?D_meets_far_line ?D_crossed_line ?D_is_room_left ?D_lines_fault ?D_corners_of ?D_lines_of ?D_room_fault ?D_book_fault ?D_is_within ?D_is_inside ?D_refusal ?D_are_points_right ?D_points_of ?D_is_clear ?D_clear_from ?D_rising_rows ?D_first_missed ?D_fewest ?D_cover
    all_goals (refine' Pr.def_mk KX G ?a ?l ?c ?k; (case a => k_is); (case l => k_is); (case c => k_is); (case k => k_is))
  case S =>
    intro K H xs a hO hwi hask hx
    exact Pr.end_cover a hwi hask hx
#print axioms PySem.Challenge.cw_hearingplaces_s05_cover_holds
end
