import PyProof.Rows.All
import Wide.All
import OpenK.AllK
import Wide.FinOn
import PyProof.EqAt
import PyProof.EqKinds
import PyProof.TupleCall
import KE.BitLaws
import PySem.Challenge.RW_readaloud_s01_answers
import PyRc75
import PyFlatLaws
import KE.OsGo
import KE.KNestM
import Open.SpecLaws
set_option Elab.async false
set_option linter.all false
set_option maxRecDepth 100000
section
namespace L2
open PySem PySem.Spec PyProof.Rows
abbrev Key := Sum Int Str
def keyIs : Key -> Value -> Bool
 | .inl k, v => Value.isInt k v
 | .inr x, v => Value.isStrOf x v
def keyH (w : World) : Key -> Int
 | .inl k => hashInt k
 | .inr x => hashStr w x
theorem keyIs_shape : ∀ {k : Key} {v : Value}, keyIs k v = true -> (∃ i t, k = Sum.inl i /\ v = Value.int i t) \/ (∃ x t, k = Sum.inr x /\ v = Value.str x t)
 | .inl i, v, h => by
  obtain ⟨t, e⟩ := Value.isInt_shape (k := i) (v := v) h
  exact .inl ⟨i, t, rfl, e⟩
 | .inr x, v, h => by
  obtain ⟨t, e⟩ := Value.isStrOf_shape (x := x) (v := v) h
  exact .inr ⟨x, t, rfl, e⟩
theorem keyIs_int (i : Int) (t : Tok) : keyIs (.inl i) (.int i t) = true := by simp [keyIs, Value.isInt]
theorem keyIs_str (x : Str) (t : Tok) : keyIs (.inr x) (.str x t) = true := by simp [keyIs, Value.isStrOf]
theorem key_ll (a b : Int) : decide ((Sum.inl a : Key) = Sum.inl b) = (a == b) := by
 by_cases e : a = b
 ·subst e; simp
 ·have h : ¬ (Sum.inl a : Key) = Sum.inl b := fun q => e (Sum.inl.inj q)
  rw [decide_eq_false h]
  exact (beq_eq_false_iff_ne.mpr e).symm
theorem key_rr (a b : Str) : decide ((Sum.inr a : Key) = Sum.inr b) = decide (a = b) := by
 by_cases e : a = b
 ·subst e; simp
 ·have h : ¬ (Sum.inr a : Key) = Sum.inr b := fun q => e (Sum.inr.inj q)
  rw [decide_eq_false h, decide_eq_false e]
theorem key_lr (a : Int) (b : Str) : decide ((Sum.inl a : Key) = Sum.inr b) = false := decide_eq_false (fun q => nomatch q)
theorem key_rl (a : Str) (b : Int) : decide ((Sum.inr a : Key) = Sum.inl b) = false := decide_eq_false (fun q => nomatch q)
def mixKind (prog : Program) (w : World) : PySem.KeyKind prog w Key where
 is := keyIs
 hash := keyH w
 inj := fun v a b ha hb => by
  rcases keyIs_shape ha with ⟨i, t, rfl, rfl⟩ | ⟨x, t, rfl, rfl⟩
  ·rcases keyIs_shape hb with ⟨j, u, rfl, e⟩ | ⟨y, u, rfl, e⟩
   ·injection e with e1 _; rw [e1]
   ·exact nomatch e
  ·rcases keyIs_shape hb with ⟨j, u, rfl, e⟩ | ⟨y, u, rfl, e⟩
   ·exact nomatch e
   ·injection e with e1 _; rw [e1]
 byValue := fun k v h => by
  rcases keyIs_shape h with ⟨i, t, rfl, rfl⟩ | ⟨x, t, rfl, rfl⟩ <;> rfl
 pyHash := fun hv h => by
  rcases keyIs_shape hv with ⟨i, t, rfl, rfl⟩ | ⟨x, t, rfl, rfl⟩
  ·exact wpAny_pyHash_int h
  ·exact wpAny_pyHash_str h
 eqBool := fun hu hv h => by
  rcases keyIs_shape hu with ⟨i, t, rfl, rfl⟩ | ⟨x, t, rfl, rfl⟩
  ·rcases keyIs_shape hv with ⟨j, u, rfl, rfl⟩ | ⟨y, u, rfl, rfl⟩
   ·rw [key_ll] at h; exact wpAny_eqBool_int h
   ·rw [key_lr] at h; exact SeqAt.EqAt.int_str i t y u _ _ _ _ h
  ·rcases keyIs_shape hv with ⟨j, u, rfl, rfl⟩ | ⟨y, u, rfl, rfl⟩
   ·rw [key_rl] at h; exact SeqAt.EqAt.str_int x t j u _ _ _ _ h
   ·rw [key_rr] at h; exact wpAny_eqBool_str h
 «strs» := fun k x t v h => by
  rcases keyIs_shape h with ⟨i, u, rfl, e⟩ | ⟨y, u, rfl, e⟩
  ·exact nomatch e
  ·injection e with e1 _
   subst e1
   cases v <;> rfl
theorem mixKind_int (prog : Program) (w : World) (i : Int) (t : Tok) : (mixKind prog w).is (.inl i) (.int i t) = true := keyIs_int i t
theorem mixKind_str (prog : Program) (w : World) (x : Str) (t : Tok) : (mixKind prog w).is (.inr x) (.str x t) = true := keyIs_str x t
end L2
namespace L2
open PySem PySem.Spec PyProof.Rows
inductive V where
 | non | bl (b : Bool) | int (i : Int) | str (x : Str) | byt (b : Array UInt8) | flt (b : UInt64) | ref (a : Addr) | ty (n : String)
 deriving DecidableEq
def RelV : V -> Value -> Prop
 | .non, u => u = Value.none
 | .bl b, u => u = Value.bool b
 | .int i, u => ∃ t, u = Value.int i t
 | .str x, u => ∃ t, u = Value.str x t
 | .byt b, u => ∃ t, u = Value.bytes b t
 | .flt b, u => ∃ t, u = Value.float b t
 | .ref a, u => u = Value.ref a
 | .ty n, u => u = Value.type n
abbrev Vals : List V -> List Value -> Prop := Paired RelV
theorem Vals.length {xs : List V} {us : List Value} (r : Vals xs us) : xs.length = us.length := Paired.length r
theorem Vals.get : ∀ {xs : List V} {us : List Value} {i : Nat} {x : V}, Vals xs us -> xs[i]? = some x -> ∃ u, us[i]? = some u /\ RelV x u
 | _, _, _, _, .nil, e => by simp at e
 | _, _, 0, _, .cons r _, e => by simp at e; subst e; exact ⟨_, rfl, r⟩
 | _, _, i + 1, x, .cons _ t, e => by
  obtain ⟨u, h1, h2⟩ := Vals.get (i := i) (x := x) t (by simpa using e)
  exact ⟨u, by simpa using h1, h2⟩
theorem Vals.append : ∀ {xs ys : List V} {us ws : List Value}, Vals xs us -> Vals ys ws -> Vals (xs ++ ys) (us ++ ws)
 | _, _, _, _, .nil, s => s
 | _, _, _, _, .cons r t, s => .cons r (Vals.append t s)
theorem Vals.take : ∀ {xs : List V} {us : List Value} (n : Nat), Vals xs us -> Vals (xs.take n) (us.take n)
 | _, _, 0, _ => .nil
 | _, _, _ + 1, .nil => .nil
 | _, _, n + 1, .cons r t => .cons r (Vals.take n t)
theorem Vals.drop : ∀ {xs : List V} {us : List Value} (n : Nat), Vals xs us -> Vals (xs.drop n) (us.drop n)
 | _, _, 0, r => r
 | _, _, _ + 1, .nil => .nil
 | _, _, n + 1, .cons _ t => Vals.drop n t
def RelO : Option V -> Option Value -> Prop
 | some v, some u => RelV v u
 | none, none => True
 | _, _ => False
def KV {κ : Type} : List (κ × V) -> List (κ × Value) -> Prop := Paired fun (p : κ × V) (q : κ × Value) => p.1 = q.1 /\ RelV p.2 q.2
def kV : Key -> V
 | .inl i => .int i
 | .inr x => .str x
inductive HO where
 | lst (xs : List V)
 | tup (xs : List V)
 | dK (kvs : List (Key × V)) | dT (kvs : List (List Key × V))
 | set (S : Int -> Bool) (n : Nat)
 | ins (C dx : Addr) (fs : List (Str × V))
 | own (x : Addr)
 | xd (fs : List (Str × V))
 | met (f x : Addr)
 | rng (lo hi : Int)
 | frz (o : Obj) (u : HO)
 | tbl (ps : Array Value)
 | ext (φ : Heap -> Prop)
abbrev Hp := Addr -> Option HO
def upd (H : Hp) (a : Addr) (o : HO) : Hp := fun b => if b = a then some o else H b
theorem upd_same {H : Hp} {a : Addr} {o : HO} : upd H a o a = some o := by unfold upd; rw [if_pos rfl]
theorem upd_ne {H : Hp} {a b : Addr} {o : HO} (h : b ≠ a) : upd H a o b = H b := by unfold upd; rw [if_neg h]
theorem upd_upd {H : Hp} {a : Addr} {o u : HO} : upd (upd H a o) a u = upd H a u := by
 funext b; unfold upd; split <;> rfl
theorem ne_of {H : Hp} {a b : Addr} {o u : HO} (h : H a = some o) (h' : H b = some u) (d : o ≠ u) : a ≠ b := by
 intro e; subst e; rw [h] at h'; exact d (Option.some.inj h')
theorem ne_of_none {H : Hp} {a b : Addr} {o : HO} (h : H a = some o) (h' : H b = none) : a ≠ b := by
 intro e; subst e; rw [h] at h'; cases h'
def IsTupD (h : Heap) (a : Addr) (its : Array Value) : Prop := ∃ o, h.get? a = some o /\ o.cls = .type "tuple" /\ ∃ n, o.data = .seq its n /\ o.dict = none
theorem IsTupD.is {h : Heap} {a : Addr} {its : Array Value} (x : IsTupD h a its) : IsTup h a its := let ⟨o, h1, h2, n, h3, _⟩ := x; ⟨o, h1, h2, n, h3⟩
section
variable (P : Program) (w : World)
def ObjOk (H : Hp) (h : Heap) (a : Addr) : HO -> Prop
 | .lst xs => xs.length <= sizeLine /\ ∃ (its : List Value) (n : Nat), Vals xs its /\ h.get? a = some { cls := .type "list", data := .seq its.toArray n }
 | .tup xs => xs.length <= sizeLine /\ ∃ its : List Value, Vals xs its /\ IsTupD h a its.toArray
 | .dK kvs => kvs.length <= sizeLine /\ (a == sysModules) = false /\ ∃ vs, KV kvs vs /\ h.DictOf (mixKind P w) a vs
 | .dT kvs => kvs.length <= sizeLine /\ (a == sysModules) = false /\ ∃ xs : List (List Key × Addr × Value),
   Paired (fun (p : List Key × V) (q : List Key × Addr × Value) => p.1 = q.1 /\ H q.2.1 = some (.tup (p.1.map kV)) /\ RelV p.2 q.2.2) kvs xs /\
   ∃ o es ep, h.get? a = some o /\ o.ExactDict /\ o.data = .dict es ep /\ es.toList = xs.map (entryOfKey (tupleKind (mixKind P w))) /\ (xs.map (·.1)).Nodup
 | .set S n => h.SetOf (intKind P w) a S n
 | .ins C dx fs => H dx = some (.own a) /\ fs.length <= 1000 /\ dx ≠ a /\ h.get? a = some (PySem.W.instObj C dx) /\
   ∃ mA, h.Ns1 dx mA /\ (∀ f, RelO (fs.lookup f) (mA f)) /\ PySem.Within mA (fs.map (·.1))
 | .own _ => ∃ o, h.get? a = some o
 | .xd fs => ∃ mA, h.Ns1 a mA /\ ∀ f, RelO (fs.lookup f) (mA f)
 | .rng lo hi => ∃ t u v, h.get? a = some { cls := .type "range", data := .fields #[.int lo t, .int hi u, .int 1 v] }
 | .frz o u => h.get? a = some o /\ ObjOk H h a u
 | .tbl ps => h.get? a = some { cls := .none, data := .fields ps }
 | .met f x => h.get? a = some (PySem.W.methodObj (.ref f) (.ref x))
 | .ext φ => φ h /\ (∃ o, h.get? a = some o) /\ ∀ h1 h2 : Heap, φ h1 -> (∀ o, h1.get? a = some o -> h2.get? a = some o) -> φ h2
def HOk (H : Hp) (h : Heap) : Prop := ∀ a o, H a = some o -> ObjOk P w H h a o
end
section
variable {P : Program} {w : World} {H H' : Hp} {h h' : Heap} {a : Addr} {o : HO}
theorem ObjOk.lt (x : ObjOk P w H h a o) : a < h.objs.size := by
 cases o with
 | lst xs => obtain ⟨_, _, _, _, e⟩ := x; exact Heap.lt_size e
 | tup xs => obtain ⟨_, _, _, p⟩ := x; exact p.is.lt
 | dK kvs => obtain ⟨_, _, _, _, o, _, _, e, _⟩ := x; exact Heap.lt_size e
 | dT kvs => obtain ⟨_, _, _, _, o, _, _, e, _⟩ := x; exact Heap.lt_size e
 | set S n => obtain ⟨o, _, _, _, e, _⟩ := x; exact Heap.lt_size e
 | ins C dx fs => obtain ⟨_, _, _, e, _⟩ := x; exact Heap.lt_size e
 | own y => obtain ⟨_, e⟩ := x; exact Heap.lt_size e
 | xd fs => obtain ⟨_, ⟨_, _, _, e, _⟩, _⟩ := x; exact Heap.lt_size e
 | rng lo hi => obtain ⟨_, _, _, e⟩ := x; exact Heap.lt_size e
 | frz ob u => obtain ⟨e, _⟩ := x; exact Heap.lt_size e
 | tbl ps => exact Heap.lt_size (show h.get? a = some _ from x)
 | met f y => exact Heap.lt_size (show h.get? a = some _ from x)
 | ext φ => obtain ⟨_, ⟨_, e⟩, _⟩ := x; exact Heap.lt_size e
theorem Paired.mapP {α β : Type} {F G : α -> β -> Prop} : ∀ {l₁ : List α} {l₂ : List β}, Paired F l₁ l₂ -> (∀ a b, F a b -> G a b) -> Paired G l₁ l₂
 | _, _, .nil, _ => .nil
 | _, _, .cons r t, f => .cons (f _ _ r) (Paired.mapP t f)
theorem ObjOk.stay (x : ObjOk P w H h a o) (k : ∀ b u, (b = a \/ H b = some (.own a)) -> h.get? b = some u -> h'.get? b = some u)
  (ho : ∀ b, H b = some (.own a) -> H' b = some (.own a)) (ht : ∀ b xs, H b = some (.tup xs) -> H' b = some (.tup xs)) : ObjOk P w H' h' a o := by
 induction o with
 | lst xs => obtain ⟨z, its, n, r, e⟩ := x; exact ⟨z, its, n, r, k _ _ (.inl rfl) e⟩
 | tup xs => obtain ⟨z, its, r, ob, e, c⟩ := x; exact ⟨z, its, r, ob, k _ _ (.inl rfl) e, c⟩
 | dK kvs => obtain ⟨z, y, vs, r, ob, es, ep, e, c⟩ := x; exact ⟨z, y, vs, r, ob, es, ep, k _ _ (.inl rfl) e, c⟩
 | dT kvs =>
  obtain ⟨z, y, xs, r, ob, es, ep, e, c⟩ := x
  exact ⟨z, y, xs, Paired.mapP r fun p q z => ⟨z.1, ht _ _ z.2.1, z.2.2⟩, ob, es, ep, k _ _ (.inl rfl) e, c⟩
 | set S n => obtain ⟨ob, es, ep, t, e, c⟩ := x; exact ⟨ob, es, ep, t, k _ _ (.inl rfl) e, c⟩
 | ins C dx fs =>
  obtain ⟨d, z, ne, e, mA, ⟨od, es, ep, e2, c⟩, r⟩ := x
  exact ⟨ho _ d, z, ne, k _ _ (.inl rfl) e, mA, ⟨od, es, ep, k _ _ (.inr d) e2, c⟩, r⟩
 | own y => obtain ⟨ob, e⟩ := x; exact ⟨ob, k _ _ (.inl rfl) e⟩
 | xd fs => obtain ⟨mA, ⟨od, es, ep, e, c⟩, r⟩ := x; exact ⟨mA, ⟨od, es, ep, k _ _ (.inl rfl) e, c⟩, r⟩
 | rng lo hi => obtain ⟨t, u, v, e⟩ := x; exact ⟨t, u, v, k _ _ (.inl rfl) e⟩
 | frz ob u ih => obtain ⟨e, q⟩ := x; exact ⟨k _ _ (.inl rfl) e, ih q⟩
 | tbl ps =>
  have e : h.get? a = some { cls := .none, data := .fields ps } := x
  show h'.get? a = some { cls := .none, data := .fields ps }
  exact k a _ (.inl rfl) e
 | met f y =>
  have e : h.get? a = some (PySem.W.methodObj (.ref f) (.ref y)) := x
  show h'.get? a = some (PySem.W.methodObj (.ref f) (.ref y))
  exact k a _ (.inl rfl) e
 | ext φ => obtain ⟨p, ⟨o, e⟩, st⟩ := x; exact ⟨st _ _ p fun o q => k _ _ (.inl rfl) q, ⟨o, k _ _ (.inl rfl) e⟩, st⟩
theorem HOk.lt (x : HOk P w H h) (e : H a = some o) : a < h.objs.size := (x a o e).lt
theorem HOk.fresh (x : HOk P w H h) (e : h.objs.size <= a) : H a = none := by
 cases q : H a with
 | none => rfl
 | some u => exact absurd (Nat.lt_of_lt_of_le (x.lt q) e) (Nat.lt_irrefl _)
theorem HOk.kept (x : HOk P w H h) (k : ∀ b u, h.get? b = some u -> h'.get? b = some u) : HOk P w H h' := fun a o e =>
 (x a o e).stay (fun b u _ q => k b u q) (fun _ q => q) fun _ _ q => q
theorem HOk.laid (x : HOk P w H h) (k : ∀ b u, h.get? b = some u -> h'.get? b = some u) (hp : h.objs.size <= a) (new : ObjOk P w (upd H a o) h' a o) : HOk P w (upd H a o) h' := fun b u e => by
 have hn := x.fresh hp
 by_cases hb : b = a
 ·subst hb; rw [upd_same] at e; cases e; exact new
 ·rw [upd_ne hb] at e
  exact (x b u e).stay (fun c v _ q => k c v q) (fun c q => by rw [upd_ne (ne_of_none q hn)]; exact q) fun c xs q => by rw [upd_ne (ne_of_none q hn)]; exact q
end
def Rd (H : Hp) (a : Addr) (u : HO) : Prop := H a = some u \/ ∃ o, H a = some (.frz o u)
theorem Rd.ok {P : Program} {w : World} {H : Hp} {h : Heap} {a : Addr} {u : HO} (r : Rd H a u) (x : HOk P w H h) : ObjOk P w H h a u := by
 rcases r with r | ⟨o, r⟩
 ·exact x a u r
 ·obtain ⟨_, q⟩ := x a _ r
  exact q
def Mut : Option HO -> Prop
 | some (.lst _) => True
 | some (.dK _) => True
 | some (.dT _) => True
 | some (.set _ _) => True
 | some (.ins _ _ _) => True
 | some (.ext _) => True
 | _ => False
section
variable {P : Program} {w : World} {H : Hp} {h h' : Heap} {x e : Addr} {o' : HO}
theorem HOk.write (ok : HOk P w H h) (mu : Mut (H x)) (he : e = x \/ H e = some (.own x)) (k : ∀ b u, b ≠ e -> h.get? b = some u -> h'.get? b = some u) (heo : ∃ u, h'.get? e = some u)
  (new : ObjOk P w (upd H x o') h' x o') : HOk P w (upd H x o') h' := fun b u q => by
 have nown : ∀ c y, H c = some (.own y) -> c ≠ x := fun c y r z => by subst z; rw [r] at mu; exact mu
 have ntup : ∀ c xs, H c = some (.tup xs) -> c ≠ x := fun c xs r z => by subst z; rw [r] at mu; exact mu
 by_cases hb : b = x
 ·subst hb; rw [upd_same] at q; cases q; exact new
 ·rw [upd_ne hb] at q
  by_cases hbe : b = e
  ·have q' : H b = some (.own x) := by
    rcases he with z | z
    ·exact absurd (hbe.trans z) hb
    ·rw [hbe]; exact z
   rw [q] at q'; cases q'
   obtain ⟨v, hv⟩ := heo
   exact ⟨v, by rw [hbe]; exact hv⟩
  ·refine (ok b u q).stay (fun c v hc r => k c v ?_ r) (fun c r => by rw [upd_ne (nown c b r)]; exact r) fun c xs r => by rw [upd_ne (ntup c xs r)]; exact r
   rcases hc with rfl | hc
   ·exact hbe
   ·rintro rfl
    rcases he with z | z
    ·exact nown c b hc z
    ·rw [hc] at z; cases z; exact hb rfl
end
structure Un (fs ex : List Addr) (H H' : Hp) (h h' : Heap) : Prop where
 keep : ∀ b o, h.get? b = some o -> H b = none -> b ∉ fs -> b ∉ ex -> h'.get? b = some o
 slot : ∀ b o, h.get? b = some o -> H b = none -> b ∈ fs -> b ∉ ex -> ∃ sl, h'.get? b = some { o with slots := sl }
 free : ∀ b o, h.get? b = some o -> H b = none -> b ∉ ex -> H' b = none
 there : ∀ b o, h.get? b = some o -> b ∉ ex -> ∃ o', h'.get? b = some o'
 tups : ∀ b xs, H b = some (.tup xs) -> H' b = some (.tup xs)
 frzs : ∀ b o u, H b = some (.frz o u) -> H' b = some (.frz o u)
 tbls : ∀ b ps, H b = some (.tbl ps) -> ∃ more, H' b = some (.tbl (ps ++ more))
section
variable {fs fs' ex ex' : List Addr} {H H1 H2 : Hp} {h h1 h2 h' : Heap} {a x e : Addr} {o : HO}
theorem Un.any (u : Un fs ex H H1 h h1) {b : Addr} {ob : Obj} (q : h.get? b = some ob) (n : H b = none) (hx : b ∉ ex) : ∃ sl, h1.get? b = some { ob with slots := sl } := by
 by_cases hb : b ∈ fs
 ·exact u.slot b ob q n hb hx
 ·exact ⟨ob.slots, u.keep b ob q n hb hx⟩
theorem Un.kept (k : ∀ b u, h.get? b = some u -> h'.get? b = some u) : Un fs ex H H h h' :=
 ⟨fun b ob q _ _ _ => k b ob q, fun b ob q _ _ _ => ⟨ob.slots, k b ob q⟩, fun _ _ _ n _ => n, fun b ob q _ => ⟨ob, k b ob q⟩, fun _ _ q => q, fun _ _ _ q => q, fun _ ps q => ⟨#[], by rw [q]; simp⟩⟩
theorem Un.refl : Un fs ex H H h h := Un.kept fun _ _ q => q
theorem Un.laid (k : ∀ b u, h.get? b = some u -> h'.get? b = some u) (hp : h.objs.size <= a) (hn : H a = none) : Un fs ex H (upd H a o) h h' where
 keep := fun b u q _ _ _ => k b u q
 slot := fun b u q _ _ _ => ⟨u.slots, k b u q⟩
 free := fun b u q n _ => by rw [upd_ne (Nat.ne_of_lt (Nat.lt_of_lt_of_le (Heap.lt_size q) hp))]; exact n
 there := fun b u q _ => ⟨u, k b u q⟩
 tups := fun b xs q => by rw [upd_ne (ne_of_none q hn)]; exact q
 frzs := fun b u xs q => by rw [upd_ne (ne_of_none q hn)]; exact q
 tbls := fun b ps q => ⟨#[], by rw [upd_ne (ne_of_none q hn), q]; simp⟩
theorem Un.write (mu : Mut (H x)) (he : e = x \/ H e = some (.own x)) (k : ∀ b u, b ≠ e -> h.get? b = some u -> h'.get? b = some u) (heo : ∃ u, h'.get? e = some u) : Un fs ex H (upd H x o) h h' := by
 have hx : ∀ b, H b = none -> b ≠ x := fun b n z => by subst z; rw [n] at mu; exact mu
 have hb : ∀ b, H b = none -> b ≠ e := fun b n z => by
  subst z
  rcases he with r | r
  ·exact hx b n r
  ·rw [n] at r; cases r
 have hm : ∀ b u, H b = some u -> ¬ Mut (some u) -> b ≠ x := fun b u q nm z => by subst z; rw [q] at mu; exact nm mu
 refine ⟨fun b u q n _ _ => k b u (hb b n) q, fun b u q n _ _ => ⟨u.slots, k b u (hb b n) q⟩, fun b u q n _ => by rw [upd_ne (hx b n)]; exact n, fun b u q _ => ?_,
  fun b xs q => by rw [upd_ne (hm b _ q fun z => z)]; exact q, fun b u xs q => by rw [upd_ne (hm b _ q fun z => z)]; exact q, fun b ps q => ⟨#[], by rw [upd_ne (hm b _ q fun z => z), q]; simp⟩⟩
 by_cases hbe : b = e
 ·subst hbe; exact heo
 ·exact ⟨u, k b u hbe q⟩
end
def trk (h : Heap) (H : Hp) : List Addr := (List.range h.objs.size).filter fun a => (H a).isSome
def hidT (h : Heap) (H : Hp) : Heap := PySem.W.hideAll h (trk h H)
theorem hidT_size (h : Heap) (H : Hp) : (hidT h H).objs.size = h.objs.size := PySem.W.hideAll_size _ _
theorem hidT_get {h : Heap} {H : Hp} {b : Addr} {o : Obj} (e : h.get? b = some o) (n : H b = none) : (hidT h H).get? b = some o :=
 PySem.W.hideAll_get _ e fun hm => by
  have q : (H b).isSome = true := (List.mem_filter.mp hm).2
  rw [n] at q; simp at q
theorem of_hidT {h : Heap} {H : Hp} {b : Addr} {o : Obj} (e : (hidT h H).get? b = some o) : h.get? b = some o /\ H b = none := by
 have e' : h.get? b = some o := PySem.W.of_hideAll (trk h H) e
 refine ⟨e', ?_⟩
 cases q : H b with
 | none => rfl
 | some x =>
  have hm : b ∈ trk h H := List.mem_filter.mpr ⟨List.mem_range.mpr (Heap.lt_size e'), by simp [q]⟩
  have z : (hidT h H).get? b = none := PySem.W.hideAll_none (trk h H) hm
  rw [z] at e; cases e
end L2
namespace L2
open PySem PySem.Spec PyProof.Rows
structure Mod (K : PySem.W.Frag) (mg : Str -> Option Value) (base : Heap) : Prop where
 kin : K.In base
 glob : base.Ns mainGlobals mg
 blt : ∃ mb, base.Ns builtinsNs mb /\ ∀ x : Str, x ≠ "__name__" -> mb x = bootBuiltins x
 nolimit : base.NoLimit
structure Cx where
 prog : Program
 w : World
 K : PySem.W.Frag
 mg : Str -> Option Value
 base : Heap
 A : Around
 N : List Str
 s_0 : Shared
 H_0 : Hp
 env : Env
 outer : List Env
 stack : List Env
 ex : List Addr
 fn : Str -> Bool
 calm : Bool
 pn : List (Addr × Obj)
 xe : Value -> Shared -> Prop
def frs (l : List Env) : List Addr := l.filterMap (·.frame)
abbrev Cx.fs (X : Cx) : List Addr := frs X.outer
def Vis (sc : Scope) (x : Str) : Prop := sc.names.lookup x = some .local \/ sc.names.lookup x = some .cell \/ sc.names.lookup x = some .free
def Loc (sc : Scope) (x : Str) : Prop := sc.names.lookup x = some .local \/ sc.names.lookup x = some .cell
def Look (env : Env) (h : Heap) (m : Str -> Option Value) (x : Str) (u : Value) : Prop :=
 (env.kindOf x = some .local /\ m x = some u) \/ ((env.kindOf x = some .cell \/ env.kindOf x = some .free) /\ ∃ c, env.cells.lookup x = some c /\ h.IsCell c (some u))
structure Cx.Ok (X : Cx) : Prop where
 mod : Mod X.K X.mg X.base
 kind : X.env.scope.kind = .function
 glob : X.env.globals = mainGlobals
 blt : X.env.builtins = builtinsNs
 above : X.s_0.heap.objs.size <= X.env.locals
 inj : ∀ x y c, X.env.cells.lookup x = some c -> X.env.cells.lookup y = some c -> x = y
 has : ∀ x, (X.env.kindOf x = some .cell \/ X.env.kindOf x = some .free) -> ∃ c, X.env.cells.lookup x = some c
 cab : ∀ x c, X.fn x = true -> X.env.cells.lookup x = some c -> X.s_0.heap.objs.size <= c
 hd : X.calm = true -> X.A.handled = none
 frames : X.A.frames = some X.stack
 stk : X.stack = X.outer \/ (X.stack = X.env :: X.outer /\ X.env.frame = some X.env.locals)
 exf : ∀ b ∈ X.ex, b ≠ X.env.locals /\ ∀ x c, X.env.cells.lookup x = some c -> c ≠ b
 bs : ∀ b o, X.base.get? b = some o -> X.s_0.heap.get? b = some o /\ X.H_0 b = none
 bsz : X.base.objs.size <= X.s_0.heap.objs.size
 noex : ∀ b o, X.base.get? b = some o -> b ∉ X.ex
 exfs : ∀ b ∈ X.ex, b ∉ X.fs
 funs : X.s_0.heap.FunFrames X.base X.outer
 frf : ∀ b ∈ X.fs, X.H_0 b = none
structure Inv (X : Cx) (pins : List (Addr × Obj)) (σ : List (Option V)) (H : Hp) (s : Shared) : Prop where
 ok : X.Ok
 os : s.os = X.s_0.os
 bare : AllBare s.gens
 base : Un X.fs X.ex X.H_0 H X.s_0.heap s.heap
 loc : ∃ m, s.heap.Ns X.env.locals m /\ ∀ (i : Nat) (x : Str) (v : V), X.N[i]? = some x -> σ[i]? = some (some v) -> Vis X.env.scope x -> ∃ u, RelV v u /\ Look X.env s.heap m x u
 cell : ∀ x c, X.env.cells.lookup x = some c -> ∃ v, s.heap.IsCell c v
 free : H X.env.locals = none
 freeC : ∀ x c, X.env.cells.lookup x = some c -> H c = none
 pin : ∀ p ∈ X.pn ++ pins, s.heap.get? p.1 = some p.2 /\ H p.1 = none /\ p.1 ≠ X.env.locals /\ p.1 ∉ X.fs /\ ∀ v, p.2.data ≠ .cell v
 hok : HOk X.prog X.w H s.heap
 len : σ.length = X.N.length
section
variable {X : Cx} {pins : List (Addr × Obj)} {σ : List (Option V)} {H H' : Hp} {s : Shared} {h' : Heap}
theorem Cx.Ok.nofr (ok : X.Ok) {b : Addr} {o : Obj} (e : X.base.get? b = some o) : b ∉ X.fs := fun hb => by
 have := (ok.funs.mem hb).1
 rw [e] at this; cases this
theorem Inv.bs (I : Inv X pins σ H s) : ∀ b o, X.base.get? b = some o -> s.heap.get? b = some o /\ H b = none := fun b o e =>
 ⟨I.base.keep b o (I.ok.bs b o e).1 (I.ok.bs b o e).2 (I.ok.nofr e) (I.ok.noex b o e), I.base.free b o (I.ok.bs b o e).1 (I.ok.bs b o e).2 (I.ok.noex b o e)⟩
theorem Inv.bk (I : Inv X pins σ H s) : ∀ b o, X.base.get? b = some o -> s.heap.get? b = some o := fun b o e => (I.bs b o e).1
theorem Inv.mod (I : Inv X pins σ H s) : Mod X.K X.mg X.base := I.ok.mod
theorem Inv.kIn (I : Inv X pins σ H s) : X.K.In s.heap := I.ok.mod.kin.keeps I.bk
theorem Inv.nolimit (I : Inv X pins σ H s) : s.heap.NoLimit := I.ok.mod.nolimit.keeps I.bk
theorem Inv.fr (I : Inv X pins σ H s) : ∃ m, Fr X.base X.env.locals s.heap m :=
 let ⟨m, hn, _⟩ := I.loc
 ⟨m, hn, I.bk, Nat.le_trans I.ok.bsz I.ok.above⟩
theorem Inv.lt (I : Inv X pins σ H s) : X.env.locals < s.heap.objs.size := let ⟨_, hn, _⟩ := I.loc; hn.lt
theorem Inv.sz (I : Inv X pins σ H s) : X.s_0.heap.objs.size <= s.heap.objs.size := Nat.le_trans I.ok.above (Nat.le_of_lt I.lt)
theorem Inv.nofs (I : Inv X pins σ H s) {a : Addr} (h : s.heap.objs.size <= a) : a ∉ X.fs := fun hb => by
 obtain ⟨_, o, ho, _⟩ := I.ok.funs.mem hb
 exact absurd (Nat.lt_of_lt_of_le (Heap.lt_size ho) (Nat.le_trans I.sz h)) (Nat.lt_irrefl _)
theorem Inv.cne (I : Inv X pins σ H s) : ∀ x c, X.env.cells.lookup x = some c -> c ≠ X.env.locals := fun x c e z => by
 obtain ⟨v, o, ho, hd⟩ := I.cell x c e
 obtain ⟨m, ⟨o', es, ep, ho', hd', _⟩, _⟩ := I.loc
 rw [z, ho'] at ho; cases ho; rw [hd'] at hd; cases hd
theorem Inv.funs (I : Inv X pins σ H s) : s.heap.FunFrames X.base X.outer := by
 have all : ∀ (l : List Env), (∀ b ∈ frs l, b ∈ X.fs) -> X.s_0.heap.FunFrames X.base l -> s.heap.FunFrames X.base l := by
  intro l
  induction l with
  | nil => intro _ _; trivial
  | cons env r ih =>
   intro hs hl
   obtain ⟨hk, ⟨L, o, hf, hn, ho, hd⟩, hr⟩ := hl
   have hL : L ∈ X.fs := hs L (by unfold frs; rw [List.filterMap_cons, hf]; exact List.mem_cons_self)
   obtain ⟨sl, e⟩ := I.base.slot L o ho (I.ok.frf L hL) hL fun z => I.ok.exfs L z hL
   exact ⟨hk, ⟨L, _, hf, hn, e, hd⟩, ih (fun b hb => hs b (by unfold frs; rw [List.filterMap_cons, hf]; exact List.mem_cons_of_mem _ hb)) hr⟩
 exact all X.outer (fun _ hb => hb) I.ok.funs
theorem Inv.stack (I : Inv X pins σ H s) : s.heap.FunFrames X.base X.stack := by
 rcases I.ok.stk with e | ⟨e, hf⟩
 ·rw [e]; exact I.funs
 ·rw [e]
  obtain ⟨m, hn, _⟩ := I.loc
  refine .cons (by rw [I.ok.kind]; decide) hf hn ?_ I.funs
  exact Heap.get?_none_of_le (Nat.le_trans I.ok.bsz I.ok.above)
theorem Inv.stkSub (I : Inv X pins σ H s) : ∀ b ∈ frs X.stack, b ∈ X.env.locals :: X.fs := fun b hb => by
 rcases I.ok.stk with e | ⟨e, hf⟩
 ·rw [e] at hb; exact List.mem_cons_of_mem _ hb
 ·rw [e] at hb
  unfold frs at hb
  rw [List.filterMap_cons, hf] at hb
  exact hb
theorem Inv.stkFree (I : Inv X pins σ H s) : ∀ b ∈ frs X.stack, H b = none := fun b hb => by
 rcases List.mem_cons.mp (I.stkSub b hb) with e | hb
 ·rw [e]; exact I.free
 ·obtain ⟨_, o, ho, _⟩ := I.ok.funs.mem hb
  exact I.base.free b o ho (I.ok.frf b hb) fun z => I.ok.exfs b z hb
theorem Inv.step {g' : Array GenState} {t' : Nat} {d' : Drawn} {ch : List Addr} (I : Inv X pins σ H s)
  (hch : ∀ b ∈ ch, (b ∈ X.ex \/ X.s_0.heap.objs.size <= b) /\ b ≠ X.env.locals /\ (∀ x c, X.env.cells.lookup x = some c -> c ≠ b) /\ ∀ p ∈ X.pn ++ pins, p.1 ≠ b)
  (keep : ∀ b o, b ≠ X.env.locals -> b ∉ X.fs -> b ∉ ch -> s.heap.get? b = some o -> H b = none -> h'.get? b = some o)
  (slot : ∀ b o, b ≠ X.env.locals -> b ∈ X.fs -> b ∉ ch -> s.heap.get? b = some o -> H b = none -> ∃ sl, h'.get? b = some { o with slots := sl }) (free : ∀ b o, b ∉ ch -> s.heap.get? b = some o -> H b = none -> H' b = none)
  (there : ∀ b o, b ∉ ch -> s.heap.get? b = some o -> ∃ o', h'.get? b = some o')
  (tups : ∀ b xs, H b = some (.tup xs) -> H' b = some (.tup xs)) (frzs : ∀ b o u, H b = some (.frz o u) -> H' b = some (.frz o u)) (tbls : ∀ b ps, H b = some (.tbl ps) -> ∃ more, H' b = some (.tbl (ps ++ more)))
  (ns : ∀ m, s.heap.Ns X.env.locals m -> h'.Ns X.env.locals m) (hok : HOk X.prog X.w H' h') (hg : AllBare g') :
  Inv X pins σ H' { s with heap := h', gens := g', drawn := d', toks := t' } := by
 have neL : ∀ b o, X.s_0.heap.get? b = some o -> b ≠ X.env.locals := fun b o e => Nat.ne_of_lt (Nat.lt_of_lt_of_le (Heap.lt_size e) I.ok.above)
 have neC : ∀ b o, X.s_0.heap.get? b = some o -> b ∉ X.ex -> b ∉ ch := fun b o e hx hb => by
  rcases (hch b hb).1 with z | z
  ·exact hx z
  ·exact absurd (Nat.lt_of_lt_of_le (Heap.lt_size e) z) (Nat.lt_irrefl _)
 have cellK : ∀ x c, X.env.cells.lookup x = some c -> ∀ v, s.heap.IsCell c v -> h'.IsCell c v := fun x c e v ⟨o, ho, hd⟩ => by
  have nch : c ∉ ch := fun z => (hch c z).2.2.1 x c e rfl
  by_cases hc : c ∈ X.fs
  ·obtain ⟨sl, q⟩ := slot c o (I.cne x c e) hc nch ho (I.freeC x c e)
   exact ⟨_, q, hd⟩
  ·exact ⟨o, keep c o (I.cne x c e) hc nch ho (I.freeC x c e), hd⟩
 refine ⟨I.ok, I.os, hg, ⟨fun b o e n hb hx => ?_, fun b o e n hb hx => ?_, fun b o e n hx => ?_, fun b o e hx => ?_, fun b xs e => tups b xs (I.base.tups b xs e), fun b o xs e => frzs b o xs (I.base.frzs b o xs e), fun b ps e => ?_⟩, ?_, fun x c e => ?_, ?_, fun x c e => ?_, fun p hp => ?_, hok, I.len⟩
 ·exact keep b o (neL b o e) hb (neC b o e hx) (I.base.keep b o e n hb hx) (I.base.free b o e n hx)
 ·obtain ⟨sl, e1⟩ := I.base.slot b o e n hb hx
  obtain ⟨sl', e2⟩ := slot b _ (neL b o e) hb (neC b o e hx) e1 (I.base.free b o e n hx)
  exact ⟨sl', e2⟩
 ·obtain ⟨o', e1⟩ := I.base.there b o e hx
  exact free b o' (neC b o e hx) e1 (I.base.free b o e n hx)
 ·obtain ⟨o', e1⟩ := I.base.there b o e hx
  exact there b o' (neC b o e hx) e1
 ·obtain ⟨m1, e1⟩ := I.base.tbls b ps e
  obtain ⟨m2, e2⟩ := tbls b _ e1
  exact ⟨m1 ++ m2, by rw [e2, Array.append_assoc]⟩
 ·obtain ⟨m, hn, hl⟩ := I.loc
  refine ⟨m, ns m hn, fun i x v e1 e2 e3 => ?_⟩
  obtain ⟨u, r, l⟩ := hl i x v e1 e2 e3
  refine ⟨u, r, ?_⟩
  rcases l with l | ⟨k, c, e, z⟩
  ·exact .inl l
  ·exact .inr ⟨k, c, e, cellK x c e _ z⟩
 ·obtain ⟨v, z⟩ := I.cell x c e
  exact ⟨v, cellK x c e v z⟩
 ·obtain ⟨m, ⟨o, _, _, ho, _⟩, _⟩ := I.loc
  exact free _ o (fun z => (hch _ z).2.1 rfl) ho I.free
 ·obtain ⟨v, o, ho, hd⟩ := I.cell x c e
  exact free c o (fun z => (hch c z).2.2.1 x c e rfl) ho (I.freeC x c e)
 ·obtain ⟨e, n, ne, nf, d⟩ := I.pin p hp
  have nch : p.1 ∉ ch := fun z => (hch p.1 z).2.2.2 p hp rfl
  exact ⟨keep p.1 p.2 ne nf nch e n, free p.1 p.2 nch e n, ne, nf, d⟩
theorem Inv.un {t' : Nat} (I : Inv X pins σ H s) (u : Un X.fs [] H H' s.heap h') (hok : HOk X.prog X.w H' h') : Inv X pins σ H' { s with heap := h', toks := t' } := by
 obtain ⟨m, ⟨o, es, ep, ho, r⟩, _⟩ := id I.loc
 obtain ⟨sl, hL⟩ := u.any ho I.free (by simp)
 exact I.step (g' := s.gens) (d' := s.drawn) (ch := []) (fun _ z => nomatch z) (fun b o _ hb _ e n => u.keep b o e n hb (by simp)) (fun b o _ hb _ e n => u.slot b o e n hb (by simp)) (fun b o _ e n => u.free b o e n (by simp)) (fun b o _ e => u.there b o e (by simp)) u.tups u.frzs u.tbls (fun m' hm => by
  obtain ⟨o', es', ep', ho', r'⟩ := hm
  rw [ho] at ho'; cases ho'
  exact ⟨_, es', ep', hL, r'⟩) hok I.bare
theorem Inv.call {g' : Array GenState} {t' : Nat} {d' : Drawn} {ch : List Addr} (I : Inv X pins σ H s) (u : Un (frs X.stack) ch H H' s.heap h') (hok : HOk X.prog X.w H' h') (hg : AllBare g')
  (hch : ∀ b ∈ ch, (b ∈ X.ex \/ X.s_0.heap.objs.size <= b) /\ b ≠ X.env.locals /\ (∀ x c, X.env.cells.lookup x = some c -> c ≠ b) /\ ∀ p ∈ X.pn ++ pins, p.1 ≠ b) :
  Inv X pins σ H' { s with heap := h', gens := g', drawn := d', toks := t' } := by
 obtain ⟨m, ⟨o, es, ep, ho, r⟩, _⟩ := id I.loc
 obtain ⟨sl, hL⟩ := u.any ho I.free fun z => (hch _ z).2.1 rfl
 exact I.step (ch := ch) hch (fun b o hL hb hc e n => u.keep b o e n (fun z => (List.mem_cons.mp (I.stkSub b z)).elim hL hb) hc) (fun b o _ _ hc e n => u.any e n hc) (fun b o hc e n => u.free b o e n hc) (fun b o hc e => u.there b o e hc) u.tups u.frzs u.tbls (fun m' hm => by
  obtain ⟨o', es', ep', ho', r'⟩ := hm
  rw [ho] at ho'; cases ho'
  exact ⟨_, es', ep', hL, r'⟩) hok hg
theorem Inv.turned {t' : Nat} {it : Addr} (I : Inv X pins σ H s) (k : ∀ b o, b ≠ it -> s.heap.get? b = some o -> h'.get? b = some o) (hn : H it = none) (hL : it ≠ X.env.locals)
  (h1 : it ∈ X.ex \/ X.s_0.heap.objs.size <= it) (h2 : ∀ x c, X.env.cells.lookup x = some c -> c ≠ it) (h3 : ∀ p ∈ X.pn ++ pins, p.1 ≠ it) : Inv X pins σ H { s with heap := h', toks := t' } := by
 have nit : ∀ b u, H b = some u -> b ≠ it := fun b u e z => by rw [z, hn] at e; cases e
 refine I.step (g' := s.gens) (d' := s.drawn) (ch := [it]) (fun b hb => ?_) (fun b o _ _ hc e _ => k b o (fun z => hc (by simp [z])) e) (fun b o _ _ hc e _ => ⟨o.slots, k b o (fun z => hc (by simp [z])) e⟩) (fun _ _ _ _ n => n)
  (fun b o hc e => ⟨o, k b o (fun z => hc (by simp [z])) e⟩) (fun _ _ e => e) (fun _ _ _ e => e) (fun b ps e => ⟨#[], by rw [e]; simp⟩) (fun m hm => ?_) (fun b u e => ?_) I.bare
 ·have e : b = it := by simpa using hb
  subst e
  exact ⟨h1, hL, h2, h3⟩
 ·obtain ⟨o, es, ep, ho, r⟩ := hm
  exact ⟨o, es, ep, k _ o (Ne.symm hL) ho, r⟩
 ·refine (I.hok b u e).stay (fun c v hc q => k c v ?_ q) (fun _ q => q) fun _ _ q => q
  rcases hc with z | z
  ·rw [z]; exact nit b u e
  ·exact nit c _ z
theorem Inv.tok (I : Inv X pins σ H s) (t : Nat) : Inv X pins σ H { s with toks := t } := I.un (h' := s.heap) (t' := t) Un.refl I.hok
theorem Inv.kept {t' : Nat} (I : Inv X pins σ H s) (k : ∀ b u, s.heap.get? b = some u -> h'.get? b = some u) : Inv X pins σ H { s with heap := h', toks := t' } := I.un (Un.kept k) (I.hok.kept k)
theorem Inv.laid {a : Addr} {o : HO} {t' : Nat} (I : Inv X pins σ H s) (k : ∀ b u, s.heap.get? b = some u -> h'.get? b = some u) (hp : s.heap.objs.size <= a) (new : ObjOk X.prog X.w (upd H a o) h' a o) :
  Inv X pins σ (upd H a o) { s with heap := h', toks := t' } := I.un (Un.laid k hp (I.hok.fresh hp)) (I.hok.laid k hp new)
theorem Inv.write {x e : Addr} {o : HO} {t' : Nat} (I : Inv X pins σ H s) (mu : Mut (H x)) (he : e = x \/ H e = some (.own x)) (k : ∀ b u, b ≠ e -> s.heap.get? b = some u -> h'.get? b = some u) (heo : ∃ u, h'.get? e = some u)
  (new : ObjOk X.prog X.w (upd H x o) h' x o) : Inv X pins σ (upd H x o) { s with heap := h', toks := t' } := I.un (Un.write mu he k heo) (I.hok.write mu he k heo new)
theorem Inv.weak {σ' : List (Option V)} (I : Inv X pins σ H s) (hl : σ'.length = σ.length) (w : ∀ (i : Nat) v, σ'[i]? = some (some v) -> σ[i]? = some (some v)) : Inv X pins σ' H s :=
 ⟨I.ok, I.os, I.bare, I.base, let ⟨m, hn, hl'⟩ := I.loc; ⟨m, hn, fun i x v e1 e2 e3 => hl' i x v e1 (w i v e2) e3⟩, I.cell, I.free, I.freeC, I.pin, I.hok, hl.trans I.len⟩
theorem Inv.pins_of {pins' : List (Addr × Obj)} (I : Inv X pins σ H s) (h : ∀ p ∈ pins', s.heap.get? p.1 = some p.2 /\ H p.1 = none /\ p.1 ≠ X.env.locals /\ p.1 ∉ X.fs /\ ∀ v, p.2.data ≠ .cell v) : Inv X pins' σ H s :=
 ⟨I.ok, I.os, I.bare, I.base, I.loc, I.cell, I.free, I.freeC, fun p hp => (List.mem_append.mp hp).elim (fun z => I.pin p (List.mem_append_left _ z)) (h p), I.hok, I.len⟩
theorem nodup_ix {N : List Str} (hN : N.Nodup) {i j : Nat} {x : Str} (a : N[i]? = some x) (b : N[j]? = some x) : i = j := by
 obtain ⟨h1, e1⟩ := List.getElem?_eq_some_iff.mp a
 obtain ⟨h2, e2⟩ := List.getElem?_eq_some_iff.mp b
 exact (List.getElem_inj hN).mp (e1.trans e2.symm)
theorem store_ok2 {M : Model} {A : Around} {E : Value -> Shared -> Prop} {i : Nat} {x : Str} {v : V} {u : Value} {Q : Unit -> Shared -> Prop} (I : Inv X pins σ H s) (hN : X.N.Nodup) (hi : X.N[i]? = some x) (hx : Loc X.env.scope x) (r : RelV v u)
  (h : ∀ s', Inv X pins (σ.set i (some v)) H s' -> (∃ a, Heap.SameBut a s.heap s'.heap /\ (a = X.env.locals \/ X.env.cells.lookup x = some a)) -> Q () s') (hf : X.fn x = true \/ X.env.scope.names.lookup x = some .local := by first | exact .inl rfl | exact .inr rfl | assumption) : wpAny M A (storeName X.env x u) Q E s := by
 obtain ⟨m, hn, hl⟩ := id I.loc
 have hcls : (X.env.scope.kind == .class || (X.env.scope.kind == .module && X.env.locals != X.env.globals)) = false := by rw [I.ok.kind]; rfl
 have hiσ : i < σ.length := by rw [I.len]; exact (List.getElem?_eq_some_iff.mp hi).1
 have cne := I.cne
 have tracked : ∀ {a : Addr} {h' : Heap}, (∃ o, s.heap.get? a = some o /\ H a = none) -> Heap.SameBut a s.heap h' -> HOk X.prog X.w H h' := fun {a h'} ha hs b ob e => by
  obtain ⟨_, _, hfree⟩ := ha
  refine (I.hok b ob e).stay (fun c w' hc q => (hs.2 c ?_).trans q) (fun _ q => q) fun _ _ q => q
  rintro rfl
  rcases hc with rfl | hc
  ·rw [hfree] at e; cases e
  ·rw [hfree] at hc; cases hc
 rcases hx with hk | hk
 ·refine wpAny_storeName_local hk hn (fun h' hn' hs => ?_) hcls
  obtain ⟨oL, _, _, hoL, _⟩ := id hn
  refine h _ ⟨I.ok, I.os, I.bare, ⟨fun b o e n hb hx => ?_, fun b o e n hb hx => ?_, I.base.free, fun b o e hx => ?_, I.base.tups, I.base.frzs, I.base.tbls⟩, ⟨_, hn', fun j y v' e1 e2 e3 => ?_⟩, fun y c e => ?_, I.free, I.freeC, fun p hp => ?_, tracked ⟨oL, hoL, I.free⟩ hs, by simpa using I.len⟩ ⟨_, hs, .inl rfl⟩
  ·exact (hs.2 b (Nat.ne_of_lt (Nat.lt_of_lt_of_le (Heap.lt_size e) I.ok.above))).trans (I.base.keep b o e n hb hx)
  ·obtain ⟨sl, e1⟩ := I.base.slot b o e n hb hx
   exact ⟨sl, (hs.2 b (Nat.ne_of_lt (Nat.lt_of_lt_of_le (Heap.lt_size e) I.ok.above))).trans e1⟩
  ·obtain ⟨o', e1⟩ := I.base.there b o e hx
   exact ⟨o', (hs.2 b (Nat.ne_of_lt (Nat.lt_of_lt_of_le (Heap.lt_size e) I.ok.above))).trans e1⟩
  ·by_cases hj : j = i
   ·subst hj
    rw [hi] at e1; cases e1
    rw [List.getElem?_set_self hiσ] at e2
    cases e2
    exact ⟨u, r, .inl ⟨hk, by simp⟩⟩
   ·rw [List.getElem?_set_ne (Ne.symm hj)] at e2
    obtain ⟨u', r', q⟩ := hl j y v' e1 e2 e3
    refine ⟨u', r', ?_⟩
    rcases q with ⟨k, e⟩ | ⟨k, c, e, z⟩
    ·refine .inl ⟨k, ?_⟩
     have : y ≠ x := fun e => hj (nodup_ix hN e1 (e ▸ hi))
     simp [this, e]
    ·exact .inr ⟨k, c, e, z.sameBut hs (cne y c e)⟩
  ·obtain ⟨w', z⟩ := I.cell y c e
   exact ⟨w', z.sameBut hs (cne y c e)⟩
  ·obtain ⟨e, n, ne, nf, d⟩ := I.pin p hp
   exact ⟨(hs.2 p.1 ne).trans e, n, ne, nf, d⟩
 ·have hfn : X.fn x = true := by
   rcases hf with z | z
   ·exact z
   ·rw [z] at hk; cases hk
  obtain ⟨c, hc⟩ := I.ok.has x (.inl hk)
  obtain ⟨w', z⟩ := I.cell x c hc
  refine wpAny_storeName_cell I.ok.kind hk hc z (fun h' hc' hs => ?_)
  obtain ⟨oc, hoc, hocd⟩ := id z
  refine h { s with heap := h' } ⟨I.ok, I.os, I.bare, ⟨fun b o e n hb hx => ?_, fun b o e n hb hx => ?_, I.base.free, fun b o e hx => ?_, I.base.tups, I.base.frzs, I.base.tbls⟩, ⟨m, hn.sameBut hs (Ne.symm (cne x c hc)), fun j y v' e1 e2 e3 => ?_⟩, fun y c' e => ?_, I.free, I.freeC, fun p hp => ?_, tracked ⟨oc, hoc, I.freeC x c hc⟩ hs, by simpa using I.len⟩ ⟨c, hs, .inr hc⟩
  ·exact (hs.2 b (Nat.ne_of_lt (Nat.lt_of_lt_of_le (Heap.lt_size e) (I.ok.cab x c hfn hc)))).trans (I.base.keep b o e n hb hx)
  ·obtain ⟨sl, e1⟩ := I.base.slot b o e n hb hx
   exact ⟨sl, (hs.2 b (Nat.ne_of_lt (Nat.lt_of_lt_of_le (Heap.lt_size e) (I.ok.cab x c hfn hc)))).trans e1⟩
  ·obtain ⟨o', e1⟩ := I.base.there b o e hx
   exact ⟨o', (hs.2 b (Nat.ne_of_lt (Nat.lt_of_lt_of_le (Heap.lt_size e) (I.ok.cab x c hfn hc)))).trans e1⟩
  ·by_cases hj : j = i
   ·subst hj
    rw [hi] at e1; cases e1
    rw [List.getElem?_set_self hiσ] at e2
    cases e2
    exact ⟨u, r, .inr ⟨.inl hk, c, hc, hc'⟩⟩
   ·rw [List.getElem?_set_ne (Ne.symm hj)] at e2
    obtain ⟨u', r', q⟩ := hl j y v' e1 e2 e3
    refine ⟨u', r', ?_⟩
    rcases q with q | ⟨k, c', e, z'⟩
    ·exact .inl q
    ·refine .inr ⟨k, c', e, z'.sameBut hs ?_⟩
     rintro rfl
     exact hj (nodup_ix hN e1 (I.ok.inj _ _ _ e hc ▸ hi))
  ·by_cases hcc : c' = c
   ·subst hcc; exact ⟨_, hc'⟩
   ·obtain ⟨w2, z2⟩ := I.cell y c' e
    exact ⟨w2, z2.sameBut hs hcc⟩
  ·obtain ⟨e, n, ne, nf, d⟩ := I.pin p hp
   refine ⟨(hs.2 p.1 ?_).trans e, n, ne, nf, d⟩
   intro q
   rw [q, hoc] at e
   have q' : oc = p.2 := Option.some.inj e
   exact d w' (by rw [<- q']; exact hocd)
theorem store_ok {M : Model} {A : Around} {E : Value -> Shared -> Prop} {i : Nat} {x : Str} {v : V} {u : Value} {Q : Unit -> Shared -> Prop} (I : Inv X pins σ H s) (hN : X.N.Nodup) (hi : X.N[i]? = some x) (hx : Loc X.env.scope x) (r : RelV v u)
  (h : ∀ s', Inv X pins (σ.set i (some v)) H s' -> Q () s') (hf : X.fn x = true \/ X.env.scope.names.lookup x = some .local := by first | exact .inl rfl | exact .inr rfl | assumption) : wpAny M A (storeName X.env x u) Q E s :=
 store_ok2 I hN hi hx r (fun s' I' _ => h s' I') hf
theorem Inv.call' {s' : Shared} {ch : List Addr} (I : Inv X pins σ H s) (ho : s'.os = s.os) (u : Un (frs X.stack) ch H H' s.heap s'.heap) (hok : HOk X.prog X.w H' s'.heap) (hg : AllBare s'.gens)
  (hch : ∀ b ∈ ch, (b ∈ X.ex \/ X.s_0.heap.objs.size <= b) /\ b ≠ X.env.locals /\ (∀ x c, X.env.cells.lookup x = some c -> c ≠ b) /\ ∀ p ∈ X.pn ++ pins, p.1 ≠ b) : Inv X pins σ H' s' := by
 obtain ⟨h', g', d', t', o'⟩ := s'
 have e : o' = s.os := ho
 subst e
 exact I.call (g' := g') (t' := t') (d' := d') u hok hg hch
end
abbrev XK := Value -> Option Addr -> Hp -> Prop
abbrev St := List (Option V)
abbrev VK := V -> Hp -> Prop
abbrev TE := St -> Hp -> VK -> Prop
abbrev TT := St -> Hp -> (Bool -> Hp -> Prop) -> Prop
abbrev TA := St -> Hp -> (List V -> Hp -> Prop) -> Prop
structure Ends where
 nx : St -> Hp -> Prop
 rt : VK
 bk : St -> Hp -> Prop := fun _ _ => False
 ct : St -> Hp -> Prop := fun _ _ => False
abbrev TS := Ends -> St -> Hp -> Prop
def EP (X : Cx) (pins : List (Addr × Obj)) (σ : St) (Q : VK) (u : Value) (s' : Shared) : Prop := ∃ v H', Inv X pins σ H' s' /\ RelV v u /\ Q v H'
def TP (X : Cx) (pins : List (Addr × Obj)) (σ : St) (Q : Bool -> Hp -> Prop) (b : Bool) (s' : Shared) : Prop := ∃ H', Inv X pins σ H' s' /\ Q b H'
def AP (X : Cx) (pins : List (Addr × Obj)) (σ : St) (Q : List V -> Hp -> Prop) (us : List Value) (s' : Shared) : Prop := ∃ vs H', Inv X pins σ H' s' /\ Vals vs us /\ Q vs H'
def SP (X : Cx) (pins : List (Addr × Obj)) (D : Ends) (f : Flow) (s' : Shared) : Prop :=
 match f with
 | .next => ∃ σ' H', Inv X pins σ' H' s' /\ D.nx σ' H'
 | .brk => ∃ σ' H', Inv X pins σ' H' s' /\ D.bk σ' H'
 | .cont => ∃ σ' H', Inv X pins σ' H' s' /\ D.ct σ' H'
 | .ret u => ∃ v σ' H', Inv X pins σ' H' s' /\ RelV v u /\ D.rt v H'
def PE (X : Cx) (e : Expr) (t : TE) : Prop :=
 ∀ (pins : List (Addr × Obj)) (s : Shared) (σ : St) (H : Hp) (Q : VK), Inv X pins σ H s -> t σ H Q -> wpAny (model X.prog X.w) X.A (eval e X.env) (EP X pins σ Q) X.xe s
def PT (X : Cx) (e : Expr) (t : TT) : Prop :=
 ∀ (pins : List (Addr × Obj)) (s : Shared) (σ : St) (H : Hp) (Q : Bool -> Hp -> Prop), Inv X pins σ H s -> t σ H Q -> wpAny (model X.prog X.w) X.A (isTrue e X.env (eval e X.env)) (TP X pins σ Q) X.xe s
def PW (X : Cx) (e : Expr) (t : TT) : Prop :=
 ∀ (whole : Sem Value) (pins : List (Addr × Obj)) (s : Shared) (σ : St) (H : Hp) (Q : Bool -> Hp -> Prop), Inv X pins σ H s -> t σ H Q -> wpAny (model X.prog X.w) X.A (isTrue e X.env whole) (TP X pins σ Q) X.xe s
theorem PW.pt {X : Cx} {e : Expr} {t : TT} (h : PW X e t) : PT X e t := h _
def PA (X : Cx) (es : List Expr) (t : TA) : Prop :=
 ∀ (pos : Pos) (pins : List (Addr × Obj)) (s : Shared) (σ : St) (H : Hp) (Q : List V -> Hp -> Prop), Inv X pins σ H s -> t σ H Q -> wpAny (model X.prog X.w) X.A (spliced (backTo pos (starEach es X.env))) (AP X pins σ Q) X.xe s
def PS (X : Cx) (st : Stmt) (t : TS) : Prop :=
 ∀ (pins : List (Addr × Obj)) (s : Shared) (σ : St) (H : Hp) (D : Ends), Inv X pins σ H s -> t D σ H -> wpAny (model X.prog X.w) X.A (exec st X.env) (SP X pins D) X.xe s
def PSs (X : Cx) (st : List Stmt) (t : TS) : Prop :=
 ∀ (pins : List (Addr × Obj)) (s : Shared) (σ : St) (H : Hp) (D : Ends), Inv X pins σ H s -> t D σ H -> wpAny (model X.prog X.w) X.A (execs st X.env) (SP X pins D) X.xe s
theorem thn {α : Type} {t : Sem α} {Q Q' : α -> Shared -> Prop} {M : Model} {A : Around} {E : Value -> Shared -> Prop} {s : Shared} (h : wpAny M A t Q E s) (hQ : ∀ a s, Q a s -> Q' a s) : wpAny M A t Q' E s := wpAny_mono h hQ fun _ _ x => x
end L2
namespace L2
open PySem PySem.Spec PyProof.Rows
section
variable {X : Cx}
theorem bin {a b : Expr} {ta tb : TE} (ha : PE X a ta) (hb : PE X b tb) {pins : List (Addr × Obj)} {s : Shared} {σ : St} {H : Hp} {R : V -> V -> Hp -> Prop} (I : Inv X pins σ H s) (h : ta σ H fun x H1 => tb σ H1 fun y H2 => R x y H2)
  {α : Type} {Q : α -> Shared -> Prop} {f : Value -> Value -> Sem α}
  (hf : ∀ v u s2 x y H2, Inv X pins σ H2 s2 -> RelV x v -> RelV y u -> R x y H2 -> wpAny (model X.prog X.w) X.A (f v u) Q X.xe s2) :
  wpAny (model X.prog X.w) X.A (eval a X.env) (fun v s₁ => wpAny (model X.prog X.w) X.A (eval b X.env) (fun u s₂ => wpAny (model X.prog X.w) X.A (f v u) Q X.xe s₂) X.xe s₁) X.xe s := by
 refine thn (ha pins s σ H _ I h) fun v s1 ⟨x, H1, I1, r1, q1⟩ => ?_
 refine thn (hb pins s1 σ H1 _ I1 q1) fun u s2 ⟨y, H2, I2, r2, q2⟩ => ?_
 exact hf v u s2 x y H2 I2 r1 r2 q2
def tVar (i : Nat) : TE := fun σ H Q => ∃ v, σ[i]? = some (some v) /\ Q v H
def tC (v : V) : TE := fun _ H Q => Q v H
theorem pe_var {i : Nat} {x : Str} {pos : Pos} (hN : X.N[i]? = some x) (hv : Vis X.env.scope x) (hd : (x == ("__debug__" : Str)) = false := by decide) (hcd : (x == ("__classdict__" : Str)) = false := by decide) : PE X (.Name x pos) (tVar i) := by
 intro pins s σ H Q I h
 obtain ⟨v, e, h⟩ := h
 obtain ⟨m, hn, hl⟩ := I.loc
 obtain ⟨u, r, l⟩ := hl i x v hN e hv
 have fin : EP X pins σ Q u s := ⟨v, H, I, r, h⟩
 rcases l with ⟨hk, hm⟩ | ⟨hk, c, hc, hcell⟩
 ·exact wpAny_Name (wpAny_loadName_local I.ok.kind hk hn hm fin) hd
 ·rcases hk with hk | hk
  ·exact wpAny_Name (wpAny_loadName_cell I.ok.kind hk hc hcell fin) hd
  ·exact wpAny_Name (wpAny_loadName_free I.ok.kind hk hc hcell fin hcd) hd
theorem pe_int {i j pos} : PE X (.Constant (.int i) j pos) (tC (.int i)) := fun _ _ _ H _ I h => wpAny_Constant_int ⟨.int i, H, I.tok _, ⟨_, rfl⟩, h⟩
theorem pe_bl {b j pos} : PE X (.Constant (.bool b) j pos) (tC (.bl b)) := fun _ _ _ H _ I h => Constant_bool ⟨.bl b, H, I, rfl, h⟩
theorem pe_non {j pos} : PE X (.Constant .none j pos) (tC .non) := fun _ _ _ H _ I h => Constant_none ⟨.non, H, I, rfl, h⟩
def Gl (X : Cx) (x : Str) : Prop := X.env.kindOf x = some .globalImplicit
theorem ld_glob {E : Value -> Shared -> Prop} {pins : List (Addr × Obj)} {s : Shared} {σ : St} {H : Hp} {x : Str} {u : Value} {pos : Pos} {Q : Value -> Shared -> Prop} (I : Inv X pins σ H s) (hg : Gl X x) (hm : X.mg x = some u) (h : Q u s)
  (hd : (x == ("__debug__" : Str)) = false := by decide) : wpAny (model X.prog X.w) X.A (eval (.Name x pos) X.env) Q E s :=
 Calls.Name_function_global I.ok.kind hg (Calls.loadGlobal_global (by rw [I.ok.glob]; exact I.mod.glob.keeps I.bk) hm h) hd
theorem ld_blt {E : Value -> Shared -> Prop} {pins : List (Addr × Obj)} {s : Shared} {σ : St} {H : Hp} {x : Str} {u : Value} {pos : Pos} {Q : Value -> Shared -> Prop} (I : Inv X pins σ H s) (hg : Gl X x) (hm : X.mg x = none) (hv : bootBuiltins x = some u) (h : Q u s)
  (hn : x ≠ "__name__" := by decide) (hd : (x == ("__debug__" : Str)) = false := by decide) : wpAny (model X.prog X.w) X.A (eval (.Name x pos) X.env) Q E s := by
 obtain ⟨mb, h1, h2⟩ := I.mod.blt
 exact Calls.Name_function_global I.ok.kind hg (Calls.loadGlobal_builtin (by rw [I.ok.glob]; exact I.mod.glob.keeps I.bk) hm (by rw [I.ok.blt]; exact h1.keeps I.bk) ((h2 x hn).trans hv) h) hd
theorem pe_glob {x : Str} {v : V} {u : Value} {pos : Pos} (hg : Gl X x) (hm : X.mg x = some u) (r : RelV v u) (hd : (x == ("__debug__" : Str)) = false := by decide) : PE X (.Name x pos) (tC v) :=
 fun _ _ _ H _ I h => ld_glob I hg hm ⟨v, H, I, r, h⟩ hd
def t2I (ta tb : TE) (k : Int -> Int -> Hp -> Prop) : St -> Hp -> Prop := fun σ H => ta σ H fun x H1 => tb σ H1 fun y H2 => ∃ i j, x = .int i /\ y = .int j /\ k i j H2
variable {a b : Expr} {ta tb : TE} {pos : Pos}
def PC (X : Cx) (op : CmpOp) (a b : Expr) (t : TE) : Prop :=
 ∀ (pins : List (Addr × Obj)) (s : Shared) (σ : St) (H : Hp) (Q : VK), Inv X pins σ H s -> t σ H Q ->
  wpAny (model X.prog X.w) X.A (eval a X.env) (fun v s₁ => wpAny (model X.prog X.w) X.A (eval b X.env) (fun u s₂ => wpAny (model X.prog X.w) X.A (compareOp op v u) (EP X pins σ Q) X.xe s₂) X.xe s₁) X.xe s
theorem nobehind (b : Expr) {op : CmpOp} (h : op ≠ .In) (h2 : op ≠ .NotIn) : behindInMarks op b = false := by
 have e1 : (op == CmpOp.In) = false := by cases op <;> first | rfl | exact absurd rfl h
 have e2 : (op == CmpOp.NotIn) = false := by cases op <;> first | rfl | exact absurd rfl h2
 cases b <;> simp [behindInMarks, e1, e2]
def tCmp (p : Int -> Int -> Bool) (ta tb : TE) : TE := fun σ H Q => t2I ta tb (fun i j H2 => Q (.bl (p i j)) H2) σ H
abbrev tLt : TE -> TE -> TE := tCmp fun i j => decide (i < j)
theorem pc_int {op : CmpOp} {p : Int -> Int -> Bool} (ha : PE X a ta) (hb : PE X b tb)
  (rule : ∀ (i j : Int) (t u : Tok) (Q : Value -> Shared -> Prop) (s : Shared), Q (.bool (p i j)) s -> wpAny (model X.prog X.w) X.A (compareOp op (.int i t) (.int j u)) Q X.xe s) : PC X op a b (tCmp p ta tb) := by
 intro pins s σ H Q I h
 refine bin ha hb I h fun v u s2 x y H2 I2 rx ry q => ?_
 obtain ⟨i, j, rfl, rfl, q⟩ := q
 obtain ⟨t, rfl⟩ := rx
 obtain ⟨t', rfl⟩ := ry
 exact rule i j t t' _ s2 ⟨.bl _, H2, I2, rfl, q⟩
theorem pc_lt (ha : PE X a ta) (hb : PE X b tb) : PC X .Lt a b (tLt ta tb) := pc_int ha hb fun _ _ _ _ _ _ h => lt_int h
def tIsN (ta : TE) : TE := fun σ H Q => ta σ H fun x H1 => Q (.bl (decide (x = .non))) H1
theorem RelV.none_iff {x : V} {v : Value} (r : RelV x v) : (v == Value.none) = decide (x = .non) := by
 cases x with
 | non => cases r; rfl
 | bl _ => cases r; rfl
 | int _ => obtain ⟨t, rfl⟩ := r; rfl
 | str _ => obtain ⟨t, rfl⟩ := r; rfl
 | byt _ => obtain ⟨t, rfl⟩ := r; rfl
 | flt _ => obtain ⟨t, rfl⟩ := r; rfl
 | ref _ => cases r; rfl
 | ty _ => cases r; rfl
theorem pc_isN {j pos'} (ha : PE X a ta) : PC X .Is a (.Constant .none j pos') (tIsN ta) := by
 intro pins s σ H Q I h
 refine thn (ha pins s σ H _ I h) fun v s1 ⟨x, H1, I1, r1, q1⟩ => ?_
 exact Constant_none (is_none_gen ⟨.bl _, H1, I1, by rw [r1.none_iff]; rfl, q1⟩)
def tB (t : TE) : TT := fun σ H Q => t σ H fun x H1 => ∃ c, x = .bl c /\ Q c H1
theorem pt_cmp {op : CmpOp} {t : TE} (h : PC X op a b t) (h1 : behindInMarks op b = false := by first | exact nobehind _ (by decide) (by decide) | rfl) : PT X (.Compare a [op] [b] pos) (tB t) := by
 intro pins s σ H Q I hw
 refine wpAny_isTrue_Compare1 (thn (h pins s σ H _ I hw) fun v s1 h1 => thn h1 fun u s2 h2 => thn h2 fun c s3 ⟨x, H1, I1, r1, q1⟩ => ?_) h1
 obtain ⟨d, rfl, q⟩ := q1
 cases r1
 exact wpAny_truthy_bool ⟨H1, I1, q⟩
theorem pt_val {e : Expr} {t : TE} (h : PE X e t) (he : ∀ whole, isTrue e X.env whole = (do let v <- whole; standAt e.pos; holding [v] (truthy v)) := by intro _; rfl) : PT X e (tB t) := by
 intro pins s σ H Q I hw
 refine isTrue_plain (thn (h pins s σ H _ I hw) fun v s1 ⟨x, H1, I1, r1, q1⟩ => ?_) (he _)
 obtain ⟨d, rfl, q⟩ := q1
 cases r1
 exact wpAny_truthy_bool ⟨H1, I1, q⟩
variable {tA tB' : TT} {rest : List Expr}
def tAnd (t u : TT) : TT := fun σ H Q => t σ H fun c H1 => if c = true then u σ H1 Q else Q false H1
def tOr (t u : TT) : TT := fun σ H Q => t σ H fun c H1 => if c = true then Q true H1 else u σ H1 Q
def tNot (t : TT) : TT := fun σ H Q => t σ H fun c H1 => Q (!c) H1
theorem pw_and1 (ha : PT X a tA) : PW X (.BoolOp .And [a] pos) tA := by
 intro wh pins s σ H Q I h
 refine isTrue_and (thn (ha pins s σ H Q I h) fun c s1 e => ?_)
 cases c with
 | true => exact isTrue_and_nil e
 | false => exact e
theorem pw_or1 (ha : PT X a tA) : PW X (.BoolOp .Or [a] pos) tA := by
 intro wh pins s σ H Q I h
 refine isTrue_or (thn (ha pins s σ H Q I h) fun c s1 e => ?_)
 cases c with
 | false => exact isTrue_or_nil e
 | true => exact e
theorem pw_and (ha : PT X a tA) (hb : PW X (.BoolOp .And (b :: rest) pos) tB') : PW X (.BoolOp .And (a :: b :: rest) pos) (tAnd tA tB') := by
 intro wh pins s σ H Q I h
 refine isTrue_and (thn (ha pins s σ H _ I h) fun c s1 ⟨H1, I1, q1⟩ => ?_)
 cases c with
 | true => exact hb wh pins s1 σ H1 Q I1 q1
 | false => exact ⟨H1, I1, q1⟩
theorem pw_or (ha : PT X a tA) (hb : PW X (.BoolOp .Or (b :: rest) pos) tB') : PW X (.BoolOp .Or (a :: b :: rest) pos) (tOr tA tB') := by
 intro wh pins s σ H Q I h
 refine isTrue_or (thn (ha pins s σ H _ I h) fun c s1 ⟨H1, I1, q1⟩ => ?_)
 cases c with
 | true => exact ⟨H1, I1, q1⟩
 | false => exact hb wh pins s1 σ H1 Q I1 q1
theorem pt_not (ha : PT X a tA) : PT X (.UnaryOp .Not a pos) (tNot tA) := by
 intro pins s σ H Q I h
 exact isTrue_not (ha pins s σ H (fun c H1 => Q (!c) H1) I h)
def tAndV (ta tb : TE) : TE := fun σ H Q => ta σ H fun x H1 => ∃ c, x = .bl c /\ if c = true then tb σ H1 Q else Q (.bl false) H1
theorem pe_one {op} {t : TE} (h : PE X a t) : PE X (.BoolOp op [a] pos) t := fun pins s σ H Q I hw => BoolOp_one (h pins s σ H Q I hw)
theorem pe_and (ha : PE X a ta) (hb : PE X (.BoolOp .And (b :: rest) pos) tb) : PE X (.BoolOp .And (a :: b :: rest) pos) (tAndV ta tb) := by
 intro pins s σ H Q I h
 refine BoolOp_and (thn (ha pins s σ H _ I h) fun v s1 ⟨x, H1, I1, r1, q1⟩ => ?_)
 obtain ⟨c, rfl, q1⟩ := q1
 cases r1
 refine wpAny_truthy_bool ?_
 cases c with
 | true => exact hb pins s1 σ H1 Q I1 q1
 | false => exact ⟨.bl false, H1, I1, rfl, q1⟩
end
end L2
namespace L2
open PySem PySem.Spec PyProof.Rows
def SqL (K : PySem.W.Frag) (H : Hp) (a : Addr) (xs : List V) : Prop :=
 Rd H a (.lst xs) \/
  ∃ (o : Obj) (its : Array Value) (n : Nat), K.lookup a = some o /\ o.cls = .type "list" /\ o.dict = none /\ o.data = .seq its n /\ its.size <= sizeLine /\ Vals xs its.toList
def SqT (K : PySem.W.Frag) (H : Hp) (a : Addr) (xs : List V) : Prop :=
 Rd H a (.tup xs) \/
  ∃ (o : Obj) (its : Array Value) (n : Nat), K.lookup a = some o /\ o.cls = .type "tuple" /\ o.data = .seq its n /\ its.size <= sizeLine /\ Vals xs its.toList
def absV : Value -> Option V
 | .none => some .non
 | .bool b => some (.bl b)
 | .int i _ => some (.int i)
 | .str x _ => some (.str x)
 | .bytes b _ => some (.byt b)
 | .float b _ => some (.flt b)
 | .ref a => some (.ref a)
 | .type n => some (.ty n)
 | _ => none
theorem RelV.abs {x : V} {u : Value} (r : RelV x u) : absV u = some x := by
 cases x with
 | non => cases r; rfl
 | bl _ => cases r; rfl
 | int _ => obtain ⟨t, rfl⟩ := r; rfl
 | str _ => obtain ⟨t, rfl⟩ := r; rfl
 | byt _ => obtain ⟨t, rfl⟩ := r; rfl
 | flt _ => obtain ⟨t, rfl⟩ := r; rfl
 | ref _ => cases r; rfl
 | ty _ => cases r; rfl
theorem RelV.inj {x y : V} {u : Value} (r : RelV x u) (q : RelV y u) : x = y := Option.some.inj (r.abs.symm.trans q.abs)
theorem Vals.inj : ∀ {xs ys : List V} {us : List Value}, Vals xs us -> Vals ys us -> xs = ys
 | _, _, _, .nil, .nil => rfl
 | _, _, _, .cons r t, .cons r' t' => by rw [r.inj r', Vals.inj t t']
section
variable {X : Cx} {pins : List (Addr × Obj)} {σ : St} {H : Hp} {s : Shared} {a : Addr} {xs ys : List V}
theorem SqL.of {K : PySem.W.Frag} (h : H a = some (.lst xs)) : SqL K H a xs := .inl (.inl h)
theorem SqT.of {K : PySem.W.Frag} (h : H a = some (.tup xs)) : SqT K H a xs := .inl (.inl h)
theorem Inv.list (I : Inv X pins σ H s) (h : SqL X.K H a xs) : ∃ its : List Value, Vals xs its /\ PlainL s.heap a its.toArray /\ xs.length <= sizeLine := by
 rcases h with h | ⟨o, its, n, hk, hc, hd, hs, hz, r⟩
 ·obtain ⟨z, its, n, r, e⟩ := h.ok I.hok
  exact ⟨its, r, ⟨_, n, e, rfl, rfl, rfl⟩, z⟩
 ·refine ⟨its.toList, r, ⟨o, n, I.kIn a o hk, hc, hd, by simpa using hs⟩, ?_⟩
  have e := r.length
  simp only [Array.length_toList] at e
  omega
theorem Inv.tuple (I : Inv X pins σ H s) (h : SqT X.K H a xs) : ∃ its : List Value, Vals xs its /\ IsTup s.heap a its.toArray /\ xs.length <= sizeLine := by
 rcases h with h | ⟨o, its, n, hk, hc, hs, hz, r⟩
 ·obtain ⟨z, its, r, p⟩ := h.ok I.hok
  exact ⟨its, r, p.is, z⟩
 ·refine ⟨its.toList, r, ⟨o, I.kIn a o hk, hc, n, by simpa using hs⟩, ?_⟩
  have e := r.length
  simp only [Array.length_toList] at e
  omega
theorem Inv.list_inj (I : Inv X pins σ H s) (h : SqL X.K H a xs) (h' : SqL X.K H a ys) : xs = ys := by
 obtain ⟨its, r, ⟨o, n, e, _, _, d⟩, _⟩ := I.list h
 obtain ⟨its', r', ⟨o', n', e', _, _, d'⟩, _⟩ := I.list h'
 rw [e] at e'; cases e'
 rw [d] at d'
 injection d' with d1 _
 have : its = its' := by simpa using congrArg Array.toList d1
 subst this
 exact r.inj r'
theorem Inv.tuple_inj (I : Inv X pins σ H s) (h : SqT X.K H a xs) (h' : SqT X.K H a ys) : xs = ys := by
 obtain ⟨its, r, ⟨o, e, _, n, d⟩, _⟩ := I.tuple h
 obtain ⟨its', r', ⟨o', e', _, n', d'⟩, _⟩ := I.tuple h'
 rw [e] at e'; cases e'
 rw [d] at d'
 injection d' with d1 _
 have : its = its' := by simpa using congrArg Array.toList d1
 subst this
 exact r.inj r'
end
abbrev Cx.wish (X : Cx) (E : Value -> Shared -> Prop) : Cx := { X with xe := E }
abbrev Cx.nox (X : Cx) : Cx := X.wish fun _ _ => False
theorem Cx.Ok.wish {X : Cx} (ok : X.Ok) (E : Value -> Shared -> Prop) : (X.wish E).Ok :=
 ⟨ok.mod, ok.kind, ok.glob, ok.blt, ok.above, ok.inj, ok.has, ok.cab, ok.hd, ok.frames, ok.stk, ok.exf, ok.bs, ok.bsz, ok.noex, ok.exfs, ok.funs, ok.frf⟩
theorem Cx.Ok.unwish {X : Cx} {E : Value -> Shared -> Prop} (ok : (X.wish E).Ok) : X.Ok :=
 ⟨ok.mod, ok.kind, ok.glob, ok.blt, ok.above, ok.inj, ok.has, ok.cab, ok.hd, ok.frames, ok.stk, ok.exf, ok.bs, ok.bsz, ok.noex, ok.exfs, ok.funs, ok.frf⟩
section
variable {X : Cx} {pins : List (Addr × Obj)} {σ : St} {H : Hp} {s : Shared} {E : Value -> Shared -> Prop}
theorem Inv.wish (I : Inv X pins σ H s) (E : Value -> Shared -> Prop) : Inv (X.wish E) pins σ H s := ⟨I.ok.wish E, I.os, I.bare, I.base, I.loc, I.cell, I.free, I.freeC, I.pin, I.hok, I.len⟩
theorem Inv.unwish (I : Inv (X.wish E) pins σ H s) : Inv X pins σ H s := ⟨I.ok.unwish, I.os, I.bare, I.base, I.loc, I.cell, I.free, I.freeC, I.pin, I.hok, I.len⟩
theorem SP.unwish {D : Ends} {f : Flow} {s' : Shared} (h : SP (X.wish E) pins D f s') : SP X pins D f s' := by
 cases f with
 | next => obtain ⟨σ', H', I, q⟩ := h; exact ⟨σ', H', I.unwish, q⟩
 | brk => obtain ⟨σ', H', I, q⟩ := h; exact ⟨σ', H', I.unwish, q⟩
 | cont => obtain ⟨σ', H', I, q⟩ := h; exact ⟨σ', H', I.unwish, q⟩
 | ret u => obtain ⟨v, σ', H', I, r, q⟩ := h; exact ⟨v, σ', H', I.unwish, r, q⟩
theorem PSs.nox {st : List Stmt} {t : TS} (h : PSs X.nox st t) : PSs X st t := fun pins s σ H D I hw =>
 wpAny_mono (h pins s σ H D (I.wish _) hw) (fun _ _ q => q.unwish) fun _ _ z => False.elim z
end
section
variable {X : Cx} {st : Stmt} {rest : List Stmt} {t u : TS} {e : Expr} {te : TE} {pos : Pos}
def tNext : TS := fun D σ H => D.nx σ H
def tSeq (t u : TS) : TS := fun D σ H => t { D with nx := u D } σ H
theorem pss_nil : PSs X [] tNext := fun _ _ σ H _ I h => wpAny_execs_nil ⟨σ, H, I, h⟩
theorem pss_cons (h1 : PS X st t) (h2 : PSs X rest u) : PSs X (st :: rest) (tSeq t u) := by
 intro pins s σ H D I h
 refine wpAny_execs_cons (thn (h1 pins s σ H { D with nx := u D } I h) fun f s1 q => ?_)
 cases f with
 | next =>
  obtain ⟨σ', H', I', q⟩ := q
  exact h2 pins s1 σ' H' D I' q
 | ret v => exact q
 | brk => exact q
 | cont => exact q
theorem pss_one (h1 : PS X st t) : PSs X [st] t := by
 intro pins s σ H D I h
 refine wpAny_execs_cons (thn (h1 pins s σ H D I h) fun f s1 q => ?_)
 cases f with
 | next => exact wpAny_execs_nil q
 | ret v => exact q
 | brk => exact q
 | cont => exact q
theorem Inv.quiet {pins : List (Addr × Obj)} {σ : St} {H : Hp} {s : Shared} (I : Inv X pins σ H s) : interactive X.env = false := by simp [interactive, I.ok.kind]
def tDrop (te : TE) : TS := fun D σ H => te σ H fun _ H1 => D.nx σ H1
theorem ps_expr (he : PE X e te) (hs : swapsWith e none pos.line X.env = pure false := by rfl) : PS X (.Expr e pos) (tDrop te) := by
 intro pins s σ H D I h
 exact wpAny_Expr_any (thn (he pins s σ H _ I h) fun v s1 ⟨x, H1, I1, r1, q1⟩ => ⟨σ, H1, I1, q1⟩) I.quiet hs
def tRet (te : TE) : TS := fun D σ H => te σ H D.rt
theorem ps_ret (he : PE X e te) : PS X (.Return (some e) pos) (tRet te) := by
 intro pins s σ H D I h
 exact wpAny_Return_some (thn (he pins s σ H _ I h) fun v s1 ⟨x, H1, I1, r1, q1⟩ => ⟨x, σ, H1, I1, r1, q1⟩)
def tIfS (c : TT) (t u : TS) : TS := fun D σ H => c σ H fun b H1 => if b = true then t D σ H1 else u D σ H1
theorem ps_if {c : Expr} {a b : List Stmt} {tc : TT} (hc : PT X c tc) (ha : PSs X a t) (hb : PSs X b u) : PS X (.If c a b pos) (tIfS tc t u) := by
 intro pins s σ H D I h
 refine wpAny_If (thn (hc pins s σ H _ I h) fun d s1 ⟨H1, I1, q1⟩ => ?_)
 cases d with
 | true => exact ha pins s1 σ H1 D I1 q1
 | false => exact hb pins s1 σ H1 D I1 q1
def tNever : TS := fun _ _ _ => False
theorem ps_never : PS X st tNever := fun _ _ _ _ _ _ h => h.elim
end
abbrev TG := V -> St -> Hp -> (St -> Hp -> Prop) -> Prop
abbrev TGs := List V -> St -> Hp -> (St -> Hp -> Prop) -> Prop
def PG (X : Cx) (target : Expr) (t : TG) : Prop :=
 ∀ (pins : List (Addr × Obj)) (s : Shared) (σ : St) (H : Hp) (v : V) (u : Value) (Q : St -> Hp -> Prop), Inv X pins σ H s -> RelV v u -> t v σ H Q ->
  wpAny (model X.prog X.w) X.A (assign target X.env u) (fun _ s' => ∃ σ' H', Inv X pins σ' H' s' /\ Q σ' H') X.xe s
def PGs (X : Cx) (ts : List Expr) (t : TGs) : Prop :=
 ∀ (pins : List (Addr × Obj)) (s : Shared) (σ : St) (H : Hp) (vs : List V) (us : List Value) (Q : St -> Hp -> Prop), Inv X pins σ H s -> Vals vs us -> t vs σ H Q ->
  wpAny (model X.prog X.w) X.A (assignInOrder ((assignEach ts X.env).map (·.2)) us) (fun _ s' => ∃ σ' H', Inv X pins σ' H' s' /\ Q σ' H') X.xe s
abbrev TIp := V -> V -> Hp -> VK -> Prop
def PIp (X : Cx) (op : Operator) (t : TIp) : Prop :=
 ∀ (pins : List (Addr × Obj)) (s : Shared) (σ : St) (H : Hp) (x y : V) (v u : Value) (Q : VK), Inv X pins σ H s -> RelV x v -> RelV y u -> t x y H Q ->
  wpAny (model X.prog X.w) X.A (inplaceOp op v u) (EP X pins σ Q) X.xe s
section
variable {X : Cx} {pos : Pos}
def gName (i : Nat) : TG := fun v σ H Q => Q (σ.set i (some v)) H
theorem pg_name {i : Nat} {x : Str} (hN : X.N.Nodup) (hi : X.N[i]? = some x) (hx : Loc X.env.scope x) (hf : X.fn x = true \/ X.env.scope.names.lookup x = some .local := by first | exact .inl rfl | exact .inr rfl | assumption) : PG X (.Name x pos) (gName i) := by
 intro pins s σ H v u Q I r h
 exact wpAny_assign_Name (store_ok I hN hi hx r (fun s' I' => ⟨_, H, I', h⟩) hf)
def gNil : TGs := fun vs σ H Q => vs = [] /\ Q σ H
def gCons (t : TG) (u : TGs) : TGs := fun vs σ H Q => ∃ v r, vs = v :: r /\ t v σ H fun σ' H' => u r σ' H' Q
theorem pgs_nil : PGs X [] gNil := by
 intro pins s σ H vs us Q I r h
 obtain ⟨e, h⟩ := h
 subst e
 cases r
 exact assignInOrder_nil ⟨σ, H, I, h⟩
theorem pgs_cons {e : Expr} {es : List Expr} {t : TG} {u : TGs} (h1 : PG X e t) (h2 : PGs X es u)
  (hs : (assignEach (e :: es) X.env).map (·.2) = assign e X.env :: (assignEach es X.env).map (·.2) := by rfl) : PGs X (e :: es) (gCons t u) := by
 intro pins s σ H vs us Q I r h
 obtain ⟨v, vr, e1, h⟩ := h
 subst e1
 cases r with
 | cons r rr =>
  rw [hs]
  refine assignInOrder_cons (thn (h1 pins s σ H _ _ _ I r h) fun _ s1 ⟨σ1, H1, I1, q1⟩ => ?_)
  exact h2 pins s1 σ1 H1 _ _ Q I1 rr q1
def gTup (K : PySem.W.Frag) (n : Nat) (t : TGs) : TG := fun v σ H Q => ∃ a xs, v = .ref a /\ SqT K H a xs /\ xs.length = n /\ t xs σ H Q
theorem pg_tup {es : List Expr} {k : Nat} {t : TGs} {n : Nat} (hc : X.calm = true) (h : PGs X es t)
  (hn : (assignEach es X.env).length = n := by rfl) (hst : (assignEach es X.env).findIdx? (·.1) = none := by rfl) : PG X (.Tuple es k pos) (gTup X.K n t) := by
 intro pins s σ H v u Q I r hw
 obtain ⟨a, xs, e1, hq, hl, hw⟩ := hw
 subst e1
 cases r
 obtain ⟨its, rv, ht, hz⟩ := I.tuple hq
 refine assign_Tuple_tuple (I.ok.hd hc) ht (by simp [hn, <- hl, rv.length]) hst fun h' hx => ?_
 have I1 : Inv X pins σ H { s with heap := h' } := I.kept (t' := s.toks) fun b o e => hx b o (Nat.ne_of_lt (Heap.lt_size e)) e
 exact h pins _ σ H xs _ Q I1 (by simpa using rv) hw
def tAsg (te : TE) (g : TG) : TS := fun D σ H => te σ H fun x H1 => g x σ H1 D.nx
theorem ps_set {i : Nat} {x : Str} {e : Expr} {te : TE} {pos' : Pos} (hN : X.N.Nodup) (hi : X.N[i]? = some x) (hx : Loc X.env.scope x) (he : PE X e te) (hs : swapsWith e (some (.Name x pos')) pos.line X.env = pure false := by rfl) (hf : X.fn x = true \/ X.env.scope.names.lookup x = some .local := by first | exact .inl rfl | exact .inr rfl | assumption) :
  PS X (.Assign [.Name x pos'] e pos) (tAsg te (gName i)) := by
 intro pins s σ H D I h
 refine wpAny_Assign_Name (thn (he pins s σ H _ I h) fun v s1 ⟨y, H1, I1, r1, q1⟩ => ?_) hs
 exact store_ok I1 hN hi hx r1 (fun s2 I2 => ⟨_, H1, I2, q1⟩) hf
def tAug (i : Nat) (te : TE) (ti : TIp) : TS := fun D σ H => ∃ x, σ[i]? = some (some x) /\ te σ H fun y H1 => ti x y H1 fun z H2 => D.nx (σ.set i (some z)) H2
theorem ps_aug {i : Nat} {x : Str} {e : Expr} {te : TE} {op : Operator} {ti : TIp} {pos' : Pos} (hN : X.N.Nodup) (hi : X.N[i]? = some x) (hx : Loc X.env.scope x) (he : PE X e te) (ho : PIp X op ti) (hf : X.fn x = true \/ X.env.scope.names.lookup x = some .local := by first | exact .inl rfl | exact .inr rfl | assumption) :
  PS X (.AugAssign (.Name x pos') op e pos) (tAug i te ti) := by
 intro pins s σ H D I h
 obtain ⟨v, e1, h⟩ := h
 obtain ⟨m, hn, hl⟩ := I.loc
 have vis : Vis X.env.scope x := by rcases hx with k | k; exact .inl k; exact .inr (.inl k)
 obtain ⟨u, r, l⟩ := hl i x v hi e1 vis
 refine wpAny_AugAssign_Name ?_
 have go : wpAny (model X.prog X.w) X.A (eval e X.env) (fun w s₂ => wpAny (model X.prog X.w) X.A (inplaceOp op u w) (fun r s₃ => wpAny (model X.prog X.w) X.A (storeName X.env x r) (fun _ => SP X pins D .next) X.xe s₃) X.xe s₂) X.xe s := by
  refine thn (he pins s σ H _ I h) fun w s1 ⟨y, H1, I1, r1, q1⟩ => ?_
  refine thn (ho pins s1 σ H1 v y u w _ I1 r r1 q1) fun z s2 ⟨zv, H2, I2, r2, q2⟩ => ?_
  exact store_ok I2 hN hi hx r2 (fun s3 I3 => ⟨_, H2, I3, q2⟩) hf
 rcases l with ⟨hk, hm⟩ | ⟨hk, c, hc, hcell⟩
 ·exact wpAny_loadName_local I.ok.kind hk hn hm go
 ·rcases hk with hk | hk
  ·exact wpAny_loadName_cell I.ok.kind hk hc hcell go
  ·rcases hx with k | k
   ·have : X.env.scope.names.lookup x = some .free := hk
    rw [k] at this; cases this
   ·have : X.env.scope.names.lookup x = some .free := hk
    rw [k] at this; cases this
def ipI (f : Int -> Int -> Int) : TIp := fun x y H Q => ∃ i j, x = .int i /\ y = .int j /\ Q (.int (f i j)) H
theorem ip_add : PIp X .Add (ipI fun i j => i + j) := by
 intro pins s σ H x y v u Q I r1 r2 h
 obtain ⟨i, j, e1, e2, q⟩ := h
 subst e1; subst e2
 obtain ⟨t, rfl⟩ := r1
 obtain ⟨t', rfl⟩ := r2
 exact iadd_int ⟨.int _, H, I.tok _, ⟨_, rfl⟩, q⟩
theorem ip_sub : PIp X .Sub (ipI fun i j => i - j) := by
 intro pins s σ H x y v u Q I r1 r2 h
 obtain ⟨i, j, e1, e2, q⟩ := h
 subst e1; subst e2
 obtain ⟨t, rfl⟩ := r1
 obtain ⟨t', rfl⟩ := r2
 exact isub_int ⟨.int _, H, I.tok _, ⟨_, rfl⟩, q⟩
end
section
variable {X : Cx} {pos : Pos}
def tWhile (c : TT) (tb : TS) : TS := fun D σ H => ∃ W : Nat -> St -> Hp -> Prop, (∃ m, W m σ H) /\ ∀ m σ H, W m σ H ->
 c σ H fun b H1 => if b = true then ∃ N : St -> Hp -> Prop, (∀ σ' H', N σ' H' -> ∃ m', m' < m /\ W m' σ' H') /\ tb { D with nx := N, ct := N, bk := D.nx } σ H1 else D.nx σ H1
theorem ps_while {c : Expr} {body : List Stmt} {tc : TT} {tb : TS} (hp : PassesOwn (model X.prog X.w) X.A X.env X.xe) (hc : PT X c tc) (hb : PSs X body tb) : PS X (.While c body [] pos) (tWhile tc tb) := by
 intro pins s σ H D I h
 obtain ⟨W, ⟨m0, w0⟩, turn⟩ := h
 refine wpAny_While (codeAny_whileLoop (fun n s' => ∃ σ' H', Inv X pins σ' H' s' /\ W n σ' H') ?_ m0 ⟨σ, H, I, w0⟩)
 rintro n s1 ⟨σ1, H1, I1, w1⟩
 refine wpAny_passesOwn hp (thn (hc pins s1 σ1 H1 _ I1 (turn n σ1 H1 w1)) fun b s2 ⟨H2, I2, q2⟩ => ?_)
 cases b with
 | true =>
  obtain ⟨N, hN, q2⟩ := q2
  rw [if_pos rfl]
  refine wpAny_passesOwn hp (thn (hb pins s2 σ1 H2 _ I2 q2) fun f s3 q3 => ?_)
  cases f with
  | next =>
   obtain ⟨σ3, H3, I3, n3⟩ := q3
   obtain ⟨m', hm, w3⟩ := hN σ3 H3 n3
   exact ⟨m', hm, σ3, H3, I3, w3⟩
  | cont =>
   obtain ⟨σ3, H3, I3, n3⟩ := q3
   obtain ⟨m', hm, w3⟩ := hN σ3 H3 n3
   exact ⟨m', hm, σ3, H3, I3, w3⟩
  | brk => exact q3
  | ret v => exact q3
 | false =>
  rw [if_neg Bool.false_ne_true]
  exact wpAny_execs_nil ⟨σ1, H2, I2, q2⟩
end
structure It where
 go : Nat -> Hp -> Prop
 yld : Nat -> Hp -> V -> Hp -> Prop
 stop : Nat -> Hp -> Prop
def FpOk (X : Cx) (pins : List (Addr × Obj)) (H : Hp) (b : Addr) : Prop :=
 H b = none /\ b ≠ X.env.locals /\ b ∉ X.fs /\ (b ∈ X.ex \/ X.s_0.heap.objs.size <= b) /\ (∀ x c, X.env.cells.lookup x = some c -> c ≠ b) /\ ∀ p ∈ X.pn ++ pins, p.1 ≠ b
theorem Inv.fpOk {X : Cx} {pins : List (Addr × Obj)} {σ : St} {H H' : Hp} {s : Shared} {b : Addr} (I : Inv X pins σ H s) (hb : s.heap.objs.size <= b) (hn : H' b = none) : FpOk X pins H' b := by
 refine ⟨hn, Nat.ne_of_gt (Nat.lt_of_lt_of_le I.lt hb), I.nofs hb, .inr (Nat.le_trans I.sz hb), fun x c e z => ?_, fun p hp z => ?_⟩
 ·obtain ⟨v, q⟩ := I.cell x c e
  exact absurd (Nat.lt_of_lt_of_le q.lt (by rw [z]; exact hb)) (Nat.lt_irrefl _)
 ·exact absurd (Nat.lt_of_lt_of_le (Heap.lt_size (I.pin p hp).1) (by rw [z]; exact hb)) (Nat.lt_irrefl _)
structure Turn (P : Program) (w : World) (K : PySem.W.Frag) (tg : Expr) (J : It) (fp : List Addr) (it : Addr) (tn : Nat -> Heap -> Prop) : Prop where
 mem : it ∈ fp
 obj : ∀ i h, tn i h -> ∀ b ∈ fp, ∃ o, h.get? b = some o /\ ∀ v, o.data ≠ .cell v
 keep : ∀ i h h', tn i h -> (∀ b ∈ fp, ∀ o, h.get? b = some o -> h'.get? b = some o) -> tn i h'
 item : ∀ (X : Cx), X.prog = P -> X.w = w -> X.K = K -> X.calm = true -> ∀ (i : Nat) (pins : List (Addr × Obj)) (s : Shared) (σ : St) (H : Hp) (E : Value -> Shared -> Prop), Inv X pins σ H s -> (∀ b ∈ fp, FpOk X pins H b) -> tn i s.heap -> J.go i H ->
  wpAny (model P w) X.A (pyNext (.ref it)) (fun r s1 => ∃ u, r = some u /\
   wpAny (model P w) X.A (letOwnedTupleGo tg (.ref it) u) (fun _ s2 => ∃ x H', Inv X pins σ H' s2 /\ RelV x u /\ J.yld i H x H' /\ tn (i + 1) s2.heap /\ ∀ b ∈ fp, H' b = none) E s1) E s
 done : ∀ (X : Cx), X.prog = P -> X.w = w -> X.K = K -> X.calm = true -> ∀ (i : Nat) (pins : List (Addr × Obj)) (s : Shared) (σ : St) (H : Hp) (E : Value -> Shared -> Prop), Inv X pins σ H s -> (∀ b ∈ fp, FpOk X pins H b) -> tn i s.heap -> J.stop i H ->
  wpAny (model P w) X.A (pyNext (.ref it)) (fun r s1 => r = none /\ Inv X pins σ H s1) E s
 self : ∀ (A : Around) (i : Nat) (s : Shared) (Q : Value -> Shared -> Prop) (E : Value -> Shared -> Prop), tn i s.heap -> Q (.ref it) s -> wpAny (model P w) A (pyIter (.ref it)) Q E s
abbrev TI := St -> Hp -> (It -> Hp -> Prop) -> Prop
def PIE (X : Cx) (pins : List (Addr × Obj)) (σ : St) (tg : Expr) (R : It -> Hp -> Prop) (itv : Value) (s2 : Shared) : Prop :=
 ∃ (it : Addr) (fp : List Addr) (tn : Nat -> Heap -> Prop) (J : It) (H' : Hp), itv = .ref it /\ Inv X pins σ H' s2 /\ Turn X.prog X.w X.K tg J fp it tn /\ tn 0 s2.heap /\ (∀ b ∈ fp, FpOk X pins H' b) /\ R J H'
def PI (X : Cx) (tg iter : Expr) (wi : TI) : Prop :=
 ∀ (pins : List (Addr × Obj)) (s : Shared) (σ : St) (H : Hp) (R : It -> Hp -> Prop), Inv X pins σ H s -> wi σ H R ->
  wpAny (model X.prog X.w) X.A (eval iter X.env) (fun v s1 => wpAny (model X.prog X.w) X.A (pyIter v) (PIE X pins σ tg R) X.xe s1) X.xe s
theorem go_of {M : Model} {A : Around} {E : Value -> Shared -> Prop} {s : Shared} {tg : Expr} {it : Addr} {u : Value} {o : Obj} {n : String} {vs : Array Value} {Q : Unit -> Shared -> Prop} (ho : s.heap.get? it = some o) (hc : o.cls = .type n) (hd : o.data = .fields vs)
  (hn : ["enumerate", "zip", "dict_itemiterator", "dict_reverseitemiterator", "odict_iterator", "itertools.zip_longest", "itertools.pairwise"].contains n = false) (hQ : Q () s) : wpAny M A (letOwnedTupleGo tg (.ref it) u) Q E s := by
 unfold letOwnedTupleGo
 cases tg <;> first
  | exact wpAny_pure hQ
  | (cases u <;> first
    | exact wpAny_pure hQ
    | (refine wpAny_bind (wpAny_load ho ?_)
       rw [hc, hd]
       show wpAny M A (if (["enumerate", "zip", "dict_itemiterator", "dict_reverseitemiterator", "odict_iterator", "itertools.zip_longest", "itertools.pairwise"].contains n && vs[0]? == some (rawInt _)) = true then _ else _) Q E s
       rw [if_neg (by intro h; rw [hn, Bool.false_and] at h; cases h)]
       exact wpAny_pure hQ))
def Itl (K : PySem.W.Frag) (a : Addr) : It :=
 ⟨fun i H => ∃ xs x, SqL K H a xs /\ xs[i]? = some x, fun i H x H' => H' = H /\ ∀ xs, SqL K H a xs -> xs[i]? = some x, fun i H => ∃ xs, SqL K H a xs /\ xs.length <= i⟩
def Itt (K : PySem.W.Frag) (a : Addr) : It :=
 ⟨fun i H => ∃ xs x, SqT K H a xs /\ xs[i]? = some x, fun i H x H' => H' = H /\ ∀ xs, SqT K H a xs -> xs[i]? = some x, fun i H => ∃ xs, SqT K H a xs /\ xs.length <= i⟩
def Itr (lo : Int) (n : Nat) : It := ⟨fun i _ => i < n, fun i H x H' => H' = H /\ x = .int (lo + i), fun i _ => n <= i⟩
theorem turn_list {P : Program} {w : World} {K : PySem.W.Frag} {tg : Expr} (a it : Addr) : Turn P w K tg (Itl K a) [it] it (fun i h => h.IsListIter it a i) where
 mem := by simp
 obj := fun i h st b hb => by
  have e : b = it := by simpa using hb
  subst e
  obtain ⟨o, e, c, d⟩ := st
  exact ⟨o, e, fun v z => by rw [d] at z; cases z⟩
 keep := fun i h h' st k => st.at fun o e => k it (by simp) o e
 item := by
  intro X hP hw hK hc i pins s σ H E I hf st hg
  subst hP hw hK
  obtain ⟨xs, x, hq, hx⟩ := hg
  obtain ⟨its, rv, p, hz⟩ := I.list hq
  obtain ⟨u, hu, ru⟩ := rv.get hx
  obtain ⟨f0, f1, f2, f3, f4, f5⟩ := hf it (by simp)
  refine wpAny_pyNext_list_item st p.isList (x := u) (by simpa using hu) fun h' st' sb => ?_
  have I1 : Inv X pins σ H { s with heap := h' } := I.turned (t' := s.toks) (fun b o hb e => (sb.2 b hb).trans e) f0 f1 f3 f4 f5
  obtain ⟨o, e, c, d⟩ := id st'
  exact ⟨u, rfl, go_of (s := { s with heap := h' }) e c d (by decide) ⟨x, H, I1, ru, ⟨rfl, fun ys hy => by rw [I.list_inj hy hq]; exact hx⟩, st', fun b hb => (hf b hb).1⟩⟩
 done := by
  intro X hP hw hK hc i pins s σ H E I hf st hg
  subst hP hw hK
  obtain ⟨xs, hq, hx⟩ := hg
  obtain ⟨its, rv, p, hz⟩ := I.list hq
  obtain ⟨f0, f1, f2, f3, f4, f5⟩ := hf it (by simp)
  have hl := rv.length
  exact wpAny_pyNext_list_end (I.ok.hd hc) st p.isList (by simp; omega) fun h' eb => ⟨rfl, I.turned (t' := s.toks) (fun b o hb e => eb b o hb e) f0 f1 f3 f4 f5⟩
 self := fun _ _ _ _ _ st h => wpAny_pyIter_listiter st h
theorem turn_tuple {P : Program} {w : World} {K : PySem.W.Frag} {tg : Expr} (a it : Addr) : Turn P w K tg (Itt K a) [it] it (fun i h => h.IsTupleIter it a i) where
 mem := by simp
 obj := fun i h st b hb => by
  have e : b = it := by simpa using hb
  subst e
  obtain ⟨o, e, c, d⟩ := st
  exact ⟨o, e, fun v z => by rw [d] at z; cases z⟩
 keep := fun i h h' st k => st.at fun o e => k it (by simp) o e
 item := by
  intro X hP hw hK hc i pins s σ H E I hf st hg
  subst hP hw hK
  obtain ⟨xs, x, hq, hx⟩ := hg
  obtain ⟨its, rv, p, hz⟩ := I.tuple hq
  obtain ⟨u, hu, ru⟩ := rv.get hx
  obtain ⟨f0, f1, f2, f3, f4, f5⟩ := hf it (by simp)
  refine wpAny_pyNext_tuple_item st (show s.heap.IsTuple a its.toArray from p) (x := u) (by simpa using hu) fun h' st' sb => ?_
  have I1 : Inv X pins σ H { s with heap := h' } := I.turned (t' := s.toks) (fun b o hb e => (sb.2 b hb).trans e) f0 f1 f3 f4 f5
  obtain ⟨o, e, c, d⟩ := id st'
  exact ⟨u, rfl, go_of (s := { s with heap := h' }) e c d (by decide) ⟨x, H, I1, ru, ⟨rfl, fun ys hy => by rw [I.tuple_inj hy hq]; exact hx⟩, st', fun b hb => (hf b hb).1⟩⟩
 done := by
  intro X hP hw hK hc i pins s σ H E I hf st hg
  subst hP hw hK
  obtain ⟨xs, hq, hx⟩ := hg
  obtain ⟨its, rv, p, hz⟩ := I.tuple hq
  obtain ⟨f0, f1, f2, f3, f4, f5⟩ := hf it (by simp)
  have hl := rv.length
  exact wpAny_pyNext_tuple_end (I.ok.hd hc) st (show s.heap.IsTuple a its.toArray from p) (by simp; omega) fun h' eb => ⟨rfl, I.turned (t' := s.toks) (fun b o hb e => eb b o hb e) f0 f1 f3 f4 f5⟩
 self := fun _ _ _ _ _ st h => wpAny_pyIter_tupleiter st h
theorem turn_range {P : Program} {w : World} {K : PySem.W.Frag} {tg : Expr} (it : Addr) (lo : Int) (n : Nat) : Turn P w K tg (Itr lo n) [it] it (fun i h => IsRangeIter h it (lo + (i : Nat) * 1) ((n : Int) - (i : Nat)) 1) where
 mem := by simp
 obj := fun i h st b hb => by
  have e : b = it := by simpa using hb
  subst e
  exact ⟨_, st, fun v z => by
   have z' : Data.fields _ = Data.cell v := z
   cases z'⟩
 keep := fun i h h' st k => k it (by simp) _ st
 item := by
  intro X hP hw hK hc i pins s σ H E I hf st hg
  subst hP hw hK
  obtain ⟨f0, f1, f2, f3, f4, f5⟩ := hf it (by simp)
  have W := Walks.range (prog := X.prog) (w := X.w) (I.ok.hd hc) it lo 1 n
  refine W.item i s _ _ hg st fun v h' tk hv st' kk => ?_
  obtain ⟨t, rfl⟩ := hv
  have I1 : Inv X pins σ H { s with heap := h', toks := tk } := I.turned (fun b o hb e => kk b o (by simpa using hb) e) f0 f1 f3 f4 f5
  refine ⟨_, rfl, go_of (s := { s with heap := h', toks := tk }) (n := "range_iterator") st' rfl rfl (by decide) ⟨.int (lo + i), H, I1, ⟨t, ?_⟩, ⟨rfl, rfl⟩, st', fun b hb => (hf b hb).1⟩⟩
  rw [Int.mul_one]
 done := by
  intro X hP hw hK hc i pins s σ H E I hf st hg
  subst hP hw hK
  obtain ⟨f0, f1, f2, f3, f4, f5⟩ := hf it (by simp)
  exact wpAny_pyNext_range_end (I.ok.hd hc) st (by have : n <= i := hg; omega) fun h' eb => ⟨rfl, I.turned (t' := s.toks) (fun b o hb e => eb b o hb e) f0 f1 f3 f4 f5⟩
 self := fun _ _ _ _ _ st h => wpAny_pyIter_rangeiter st h
end L2
namespace L2
open PySem PySem.Spec PyProof.Rows
section
variable {X : Cx} {tg : Expr}
def iList (K : PySem.W.Frag) (tl : TE) : TI := fun σ H R => tl σ H fun x H1 => ∃ a, x = .ref a /\ (∃ xs, SqL K H1 a xs) /\ R (Itl K a) H1
def iTup (K : PySem.W.Frag) (tl : TE) : TI := fun σ H R => tl σ H fun x H1 => ∃ a, x = .ref a /\ (∃ xs, SqT K H1 a xs) /\ R (Itt K a) H1
theorem pi_list {l : Expr} {tl : TE} (hl : PE X l tl) : PI X tg l (iList X.K tl) := by
 intro pins s σ H R I h
 refine thn (hl pins s σ H _ I h) fun v s1 ⟨x, H1, I1, r1, q1⟩ => ?_
 obtain ⟨a, e, ⟨xs, hq⟩, q⟩ := q1
 subst e
 cases r1
 obtain ⟨its, rv, p, hz⟩ := I1.list hq
 refine wpAny_pyIter_list p.isList ?_
 refine ⟨s1.heap.objs.size, [s1.heap.objs.size], _, _, H1, rfl, I1.kept (t' := s1.toks) fun b o e => Heap.get?_push_of_some _ e, turn_list a _, ⟨_, Heap.get?_push_size _ rfl, rfl, rfl⟩, fun b hb => ?_, q⟩
 have e : b = s1.heap.objs.size := by simpa using hb
 subst e
 exact I1.fpOk (Nat.le_refl _) (I1.hok.fresh (Nat.le_refl _))
theorem pi_tup {l : Expr} {tl : TE} (hl : PE X l tl) : PI X tg l (iTup X.K tl) := by
 intro pins s σ H R I h
 refine thn (hl pins s σ H _ I h) fun v s1 ⟨x, H1, I1, r1, q1⟩ => ?_
 obtain ⟨a, e, ⟨xs, hq⟩, q⟩ := q1
 subst e
 cases r1
 obtain ⟨its, rv, p, hz⟩ := I1.tuple hq
 refine wpAny_pyIter_tuple (show s1.heap.IsTuple a its.toArray from p) ?_
 refine ⟨s1.heap.objs.size, [s1.heap.objs.size], _, _, H1, rfl, I1.kept (t' := s1.toks) fun b o e => Heap.get?_push_of_some _ e, turn_tuple a _, ⟨_, Heap.get?_push_size _ rfl, rfl, rfl⟩, fun b hb => ?_, q⟩
 have e : b = s1.heap.objs.size := by simpa using hb
 subst e
 exact I1.fpOk (Nat.le_refl _) (I1.hok.fresh (Nat.le_refl _))
theorem range_it {pins : List (Addr × Obj)} {σ : St} {H : Hp} {s : Shared} {R : It -> Hp -> Prop} {E : Value -> Shared -> Prop} {lo hi : Int} {t u v : Tok} {tk : Nat} (I : Inv X pins σ H s) (h1 : -(2 ^ 62) <= lo) (h2 : lo < 2 ^ 62) (h3 : -(2 ^ 62) <= hi) (h4 : hi < 2 ^ 62)
  (q : R (Itr lo (hi - lo).toNat) H) : wpAny (model X.prog X.w) X.A (pyIter (.ref s.heap.objs.size)) (PIE X pins σ tg R) E { s with heap := s.heap.push { cls := .type "range", data := .fields #[.int lo t, .int hi u, .int 1 v] }, toks := tk } := by
 refine wpAny_pyIter_range (IsRange.new ..) (small_one h1 h2 h3 h4) ?_
 have I1 : Inv X pins σ H { s with heap := s.heap.push { cls := .type "range", data := .fields #[.int lo t, .int hi u, .int 1 v] }, toks := tk } := I.kept fun b o e => Heap.get?_push_of_some _ e
 refine ⟨(s.heap.push { cls := .type "range", data := .fields #[.int lo t, .int hi u, .int 1 v] }).objs.size, [(s.heap.push { cls := .type "range", data := .fields #[.int lo t, .int hi u, .int 1 v] }).objs.size], _, _, H, rfl,
  I1.kept (t' := tk) fun b o e => Heap.get?_push_of_some _ e, turn_range _ lo (hi - lo).toNat, ?_, fun b hb => ?_, q⟩
 ·have e1 : lo + ((0 : Nat) : Int) * 1 = lo := by simp
  have e2 : (((hi - lo).toNat : Nat) : Int) - ((0 : Nat) : Int) = Builtin.Range.rangeSize lo hi 1 := by rw [rangeSize_one]; split <;> omega
  show IsRangeIter _ _ (lo + ((0 : Nat) : Int) * 1) ((((hi - lo).toNat : Nat) : Int) - ((0 : Nat) : Int)) 1
  rw [e1, e2]
  exact Heap.get?_push_size _ rfl
 ·have e : b = (s.heap.push { cls := .type "range", data := .fields #[.int lo t, .int hi u, .int 1 v] }).objs.size := by simpa using hb
  subst e
  exact I1.fpOk (Nat.le_refl _) (I1.hok.fresh (Nat.le_refl _))
def iRng1 (ta : TA) : TI := fun σ H R => ta σ H fun vs H1 => ∃ j : Int, vs = [.int j] /\ -(2 ^ 62) <= j /\ j < 2 ^ 62 /\ R (Itr 0 j.toNat) H1
def iRng2 (ta : TA) : TI := fun σ H R => ta σ H fun vs H1 => ∃ i j : Int, vs = [.int i, .int j] /\ (-(2 ^ 62) <= i /\ i < 2 ^ 62 /\ -(2 ^ 62) <= j /\ j < 2 ^ 62) /\ R (Itr i (j - i).toNat) H1
theorem pi_range1 {a : Expr} {ta : TA} {p pos : Pos} (hg : Gl X "range") (hm : X.mg "range" = none) (ha : PA X [a] ta) (hs : starEach [a] X.env = [(false, eval a X.env)] := by rfl) : PI X tg (.Call (.Name "range" p) [a] [] pos) (iRng1 ta) := by
 intro pins s σ H R I h
 refine Call_ (ld_blt I hg hm boot_range (PyProof.Rows.callWith_type1 (thn (ha pos pins s σ H _ I h) fun us s1 ⟨vs, H1, I1, r1, q1⟩ => ?_) hs rfl))
 obtain ⟨j, e, q1, q2, q⟩ := q1
 subst e
 cases r1 with
 | cons r rr =>
  cases rr
  obtain ⟨t, rfl⟩ := r
  exact call_range_1 (range_it I1 (by omega) (by omega) q1 q2 (by simpa using q))
theorem pi_range2 {a b : Expr} {ta : TA} {p pos : Pos} (hg : Gl X "range") (hm : X.mg "range" = none) (ha : PA X [a, b] ta) (hs : starEach [a, b] X.env = [(false, eval a X.env), (false, eval b X.env)] := by rfl) (hs2 : starEach [b] X.env = [(false, eval b X.env)] := by rfl) :
  PI X tg (.Call (.Name "range" p) [a, b] [] pos) (iRng2 ta) := by
 intro pins s σ H R I h
 refine Call_ (ld_blt I hg hm boot_range (PyProof.Rows.callWith_type1 (thn (ha pos pins s σ H _ I h) fun us s1 ⟨vs, H1, I1, r1, q1⟩ => ?_) (by rw [hs, hs2]) (by rw [hs2]; rfl)))
 obtain ⟨i, j, e, ⟨q1, q2, q3, q4⟩, q⟩ := q1
 subst e
 cases r1 with
 | cons r rr =>
  cases rr with
  | cons r' rr =>
   cases rr
   obtain ⟨t, rfl⟩ := r
   obtain ⟨t', rfl⟩ := r'
   exact call_range_2 (range_it I1 q1 q2 q3 q4 q)
def tFor (wi : TI) (g : TG) (tb : TS) : TS := fun D σ H => wi σ H fun J H1 => ∃ W : Nat -> Nat -> St -> Hp -> Prop, (∃ m, W 0 m σ H1) /\ ∀ i m σ H, W i m σ H ->
 (J.stop i H /\ D.nx σ H) \/ (J.go i H /\ ∃ N : St -> Hp -> Prop, (∀ σ' H', N σ' H' -> ∃ m', m' < m /\ W (i + 1) m' σ' H') /\ ∀ x H', J.yld i H x H' -> g x σ H' fun σ2 H2 => tb { D with nx := N, ct := N, bk := D.nx } σ2 H2)
def pinsAt (fp : List Addr) (h : Heap) : List (Addr × Obj) := fp.filterMap fun b => (h.get? b).map fun o => (b, o)
theorem mem_pinsAt {fp : List Addr} {h : Heap} {b : Addr} {o : Obj} (hb : b ∈ fp) (e : h.get? b = some o) : (b, o) ∈ pinsAt fp h := List.mem_filterMap.mpr ⟨b, hb, by rw [e]; rfl⟩
theorem of_pinsAt {fp : List Addr} {h : Heap} {p : Addr × Obj} (hp : p ∈ pinsAt fp h) : p.1 ∈ fp /\ h.get? p.1 = some p.2 := by
 obtain ⟨b, hb, e⟩ := List.mem_filterMap.mp hp
 cases q : h.get? b with
 | none => rw [q] at e; cases e
 | some o =>
  rw [q] at e
  have e' : (b, o) = p := Option.some.inj e
  subst e'
  exact ⟨hb, q⟩
theorem Inv.pinned {pins : List (Addr × Obj)} {σ : St} {H : Hp} {s : Shared} {fp : List Addr} (I : Inv X pins σ H s) (hf : ∀ b ∈ fp, FpOk X pins H b) (ho : ∀ b ∈ fp, ∃ o, s.heap.get? b = some o /\ ∀ v, o.data ≠ .cell v) : Inv X (pins ++ pinsAt fp s.heap) σ H s :=
 I.pins_of fun p hp => (List.mem_append.mp hp).elim (fun z => I.pin p (List.mem_append_right _ z)) fun z => by
  obtain ⟨hb, e⟩ := of_pinsAt z
  obtain ⟨f0, f1, f2, _⟩ := hf p.1 hb
  obtain ⟨o, e', d⟩ := ho p.1 hb
  rw [e] at e'; cases e'
  exact ⟨e, f0, f1, f2, d⟩
theorem Inv.unpinned {pins pl : List (Addr × Obj)} {σ : St} {H : Hp} {s : Shared} (I : Inv X (pins ++ pl) σ H s) : Inv X pins σ H s := I.pins_of fun p hp => I.pin p (List.mem_append_right _ (List.mem_append_left _ hp))
theorem ps_for {iter : Expr} {body : List Stmt} {wi : TI} {g : TG} {tb : TS} {pos : Pos} (hp : PassesOwn (model X.prog X.w) X.A X.env X.xe) (hc : X.calm = true) (hi : PI X tg iter wi) (hg : PG X tg g) (hb : PSs X body tb)
  (hs : ∀ x, foldedSetIterable iter X.env x = pure x := by intro _; rfl) : PS X (.For tg iter body [] pos) (tFor wi g tb) := by
 intro pins s σ H D I h
 refine wpAny_For (thn (hi pins s σ H _ I h) fun v s1 h1 => thn h1 fun itv s2 h2 => ?_) hs
 obtain ⟨it, fp, tn, J, H2, e, I2, T, st2, f2, W, ⟨m0, w0⟩, turn⟩ := h2
 subst e
 have stat : ∀ {H' : Hp}, (∀ b ∈ fp, H' b = none) -> ∀ b ∈ fp, FpOk X pins H' b := fun hn b hb => ⟨hn b hb, (f2 b hb).2⟩
 refine codeAny_forLoop_any (fun n s' => ∃ i σ' H', Inv X pins σ' H' s' /\ tn i s'.heap /\ (∀ b ∈ fp, H' b = none) /\ W i n σ' H') ?_ m0 ⟨0, σ, H2, I2, st2, fun b hb => (f2 b hb).1, w0⟩
 rintro n s3 ⟨i, σ3, H3, I3, st3, fr3, w3⟩
 rcases turn i n σ3 H3 w3 with ⟨stop, qn⟩ | ⟨go, N, hN, step⟩
 ·refine wpAny_passesOwn hp (thn (T.done X rfl rfl rfl hc i pins s3 σ3 H3 X.xe I3 (stat fr3) st3 stop) fun r s4 ⟨hr, I4⟩ => ?_)
  subst hr
  exact wpAny_execs_nil ⟨σ3, H3, I4, qn⟩
 ·refine wpAny_passesOwn hp (thn (T.item X rfl rfl rfl hc i pins s3 σ3 H3 X.xe I3 (stat fr3) st3 go) fun r s4 ⟨u, hr, h4⟩ => ?_)
  subst hr
  refine wpAny_passesOwn hp (thn h4 fun _ s5 ⟨x, H5, I5, r5, y5, st5, fr5⟩ => ?_)
  have I5' := I5.pinned (stat fr5) (T.obj _ _ st5)
  refine wpAny_passesOwn hp (thn (hg _ s5 σ3 H5 x u _ I5' r5 (step x H5 y5)) fun _ s6 ⟨σ6, H6, I6, q6⟩ => ?_)
  refine wpAny_passesOwn hp (thn (hb _ s6 σ6 H6 _ I6 q6) fun f s7 q7 => ?_)
  have again : ∀ {σ7 : St} {H7 : Hp}, Inv X (pins ++ pinsAt fp s5.heap) σ7 H7 s7 -> N σ7 H7 -> ∃ m, m < n /\ ∃ i σ' H', Inv X pins σ' H' s7 /\ tn i s7.heap /\ (∀ b ∈ fp, H' b = none) /\ W i m σ' H' := fun {σ7 H7} I7 n7 => by
   obtain ⟨m', hm, w7⟩ := hN σ7 H7 n7
   refine ⟨m', hm, i + 1, σ7, H7, I7.unpinned, T.keep _ _ _ st5 fun b hb o e => (I7.pin (b, o) (List.mem_append_right _ (List.mem_append_right _ (mem_pinsAt hb e)))).1, fun b hb => ?_, w7⟩
   obtain ⟨o, e, d⟩ := T.obj _ _ st5 b hb
   exact (I7.pin (b, o) (List.mem_append_right _ (List.mem_append_right _ (mem_pinsAt hb e)))).2.1
  cases f with
  | next => obtain ⟨σ7, H7, I7, n7⟩ := q7; exact again I7 n7
  | cont => obtain ⟨σ7, H7, I7, n7⟩ := q7; exact again I7 n7
  | brk => obtain ⟨σ7, H7, I7, q7⟩ := q7; exact ⟨σ7, H7, I7.unpinned, q7⟩
  | ret v => obtain ⟨x7, σ7, H7, I7, r7, q7⟩ := q7; exact ⟨x7, σ7, H7, I7.unpinned, r7, q7⟩
end
theorem for_list {K : PySem.W.Frag} {a : Addr} {xs : List V} {g : TG} {tb : TS} {D : Ends} {σ : St} {H : Hp} (Pv : Nat -> St -> Hp -> Prop) (h0 : Pv 0 σ H) (hl : ∀ i σ H, i <= xs.length -> Pv i σ H -> SqL K H a xs)
  (hs : ∀ i x σ H, xs[i]? = some x -> Pv i σ H -> g x σ H fun σ2 H2 => tb { D with nx := Pv (i + 1), ct := Pv (i + 1), bk := D.nx } σ2 H2) (hd : ∀ σ H, Pv xs.length σ H -> D.nx σ H) :
  ∃ W : Nat -> Nat -> St -> Hp -> Prop, (∃ m, W 0 m σ H) /\ ∀ i m σ H, W i m σ H ->
   ((Itl K a).stop i H /\ D.nx σ H) \/ ((Itl K a).go i H /\ ∃ N : St -> Hp -> Prop, (∀ σ' H', N σ' H' -> ∃ m', m' < m /\ W (i + 1) m' σ' H') /\ ∀ x H', (Itl K a).yld i H x H' -> g x σ H' fun σ2 H2 => tb { D with nx := N, ct := N, bk := D.nx } σ2 H2) := by
 refine ⟨fun i m σ H => m = xs.length - i /\ i <= xs.length /\ Pv i σ H, ⟨xs.length, by simp, Nat.zero_le _, h0⟩, ?_⟩
 rintro i m σ H ⟨rfl, hi, p⟩
 have q := hl i σ H hi p
 by_cases hlt : i < xs.length
 ·refine .inr ⟨⟨xs, xs[i], q, by simp [hlt]⟩, Pv (i + 1), fun σ' H' p' => ⟨xs.length - (i + 1), by omega, rfl, hlt, p'⟩, fun x H' y => ?_⟩
  obtain ⟨e, y⟩ := y
  subst e
  exact hs i x σ _ (y xs q) p
 ·have e : i = xs.length := by omega
  subst e
  exact .inl ⟨⟨xs, q, Nat.le_refl _⟩, hd σ H p⟩
theorem for_tup {K : PySem.W.Frag} {a : Addr} {xs : List V} {g : TG} {tb : TS} {D : Ends} {σ : St} {H : Hp} (Pv : Nat -> St -> Hp -> Prop) (h0 : Pv 0 σ H) (hl : ∀ i σ H, i <= xs.length -> Pv i σ H -> SqT K H a xs)
  (hs : ∀ i x σ H, xs[i]? = some x -> Pv i σ H -> g x σ H fun σ2 H2 => tb { D with nx := Pv (i + 1), ct := Pv (i + 1), bk := D.nx } σ2 H2) (hd : ∀ σ H, Pv xs.length σ H -> D.nx σ H) :
  ∃ W : Nat -> Nat -> St -> Hp -> Prop, (∃ m, W 0 m σ H) /\ ∀ i m σ H, W i m σ H ->
   ((Itt K a).stop i H /\ D.nx σ H) \/ ((Itt K a).go i H /\ ∃ N : St -> Hp -> Prop, (∀ σ' H', N σ' H' -> ∃ m', m' < m /\ W (i + 1) m' σ' H') /\ ∀ x H', (Itt K a).yld i H x H' -> g x σ H' fun σ2 H2 => tb { D with nx := N, ct := N, bk := D.nx } σ2 H2) := by
 refine ⟨fun i m σ H => m = xs.length - i /\ i <= xs.length /\ Pv i σ H, ⟨xs.length, by simp, Nat.zero_le _, h0⟩, ?_⟩
 rintro i m σ H ⟨rfl, hi, p⟩
 have q := hl i σ H hi p
 by_cases hlt : i < xs.length
 ·refine .inr ⟨⟨xs, xs[i], q, by simp [hlt]⟩, Pv (i + 1), fun σ' H' p' => ⟨xs.length - (i + 1), by omega, rfl, hlt, p'⟩, fun x H' y => ?_⟩
  obtain ⟨e, y⟩ := y
  subst e
  exact hs i x σ _ (y xs q) p
 ·have e : i = xs.length := by omega
  subst e
  exact .inl ⟨⟨xs, q, Nat.le_refl _⟩, hd σ H p⟩
theorem for_range {lo : Int} {n : Nat} {g : TG} {tb : TS} {D : Ends} {σ : St} {H : Hp} (Pv : Nat -> St -> Hp -> Prop) (h0 : Pv 0 σ H)
  (hs : ∀ i σ H, i < n -> Pv i σ H -> g (.int (lo + i)) σ H fun σ2 H2 => tb { D with nx := Pv (i + 1), ct := Pv (i + 1), bk := D.nx } σ2 H2) (hd : ∀ σ H, Pv n σ H -> D.nx σ H) :
  ∃ W : Nat -> Nat -> St -> Hp -> Prop, (∃ m, W 0 m σ H) /\ ∀ i m σ H, W i m σ H ->
   ((Itr lo n).stop i H /\ D.nx σ H) \/ ((Itr lo n).go i H /\ ∃ N : St -> Hp -> Prop, (∀ σ' H', N σ' H' -> ∃ m', m' < m /\ W (i + 1) m' σ' H') /\ ∀ x H', (Itr lo n).yld i H x H' -> g x σ H' fun σ2 H2 => tb { D with nx := N, ct := N, bk := D.nx } σ2 H2) := by
 refine ⟨fun i m σ H => m = n - i /\ i <= n /\ Pv i σ H, ⟨n, by simp, Nat.zero_le _, h0⟩, ?_⟩
 rintro i m σ H ⟨rfl, hi, p⟩
 by_cases hlt : i < n
 ·refine .inr ⟨hlt, Pv (i + 1), fun σ' H' p' => ⟨n - (i + 1), by omega, rfl, hlt, p'⟩, fun x H' y => ?_⟩
  obtain ⟨e, y⟩ := y
  subst e y
  exact hs i σ _ hlt p
 ·have e : i = n := by omega
  subst e
  exact .inl ⟨Nat.le_refl _, hd σ H p⟩
end L2
namespace L2
open PySem PySem.Spec PyProof.Rows
abbrev R2 := V -> V -> Hp -> VK -> Prop
def OpR (X : Cx) (f : Value -> Value -> Sem Value) (r : R2) : Prop :=
 ∀ (pins : List (Addr × Obj)) (s : Shared) (σ : St) (H : Hp) (x y : V) (v u : Value) (Q : VK), Inv X pins σ H s -> RelV x v -> RelV y u -> r x y H Q ->
  wpAny (model X.prog X.w) X.A (f v u) (EP X pins σ Q) X.xe s
def UnR (X : Cx) (f : Value -> Sem Value) (r : V -> Hp -> VK -> Prop) : Prop :=
 ∀ (pins : List (Addr × Obj)) (s : Shared) (σ : St) (H : Hp) (x : V) (v : Value) (Q : VK), Inv X pins σ H s -> RelV x v -> r x H Q ->
  wpAny (model X.prog X.w) X.A (f v) (EP X pins σ Q) X.xe s
def CallR (X : Cx) (f : Value) (r : List V -> Hp -> VK -> Prop) : Prop :=
 ∀ (pins : List (Addr × Obj)) (s : Shared) (σ : St) (H : Hp) (xs : List V) (us : List Value) (Q : VK), Inv X pins σ H s -> Vals xs us -> r xs H Q ->
  wpAny (model X.prog X.w) X.A (call f us) (EP X pins σ Q) X.xe s
def tOp (r : R2) (ta tb : TE) : TE := fun σ H Q => ta σ H fun x H1 => tb σ H1 fun y H2 => r x y H2 Q
def tUn (r : V -> Hp -> VK -> Prop) (ta : TE) : TE := fun σ H Q => ta σ H fun x H1 => r x H1 Q
def rI (C : Int -> Int -> Prop) (g : Int -> Int -> V) : R2 := fun x y H Q => ∃ i j, x = .int i /\ y = .int j /\ C i j /\ Q (g i j) H
def rI0 (g : Int -> Int -> V) : R2 := fun x y H Q => ∃ i j, x = .int i /\ y = .int j /\ Q (g i j) H
def rU (g : Int -> V) : V -> Hp -> VK -> Prop := fun x H Q => ∃ i, x = .int i /\ Q (g i) H
section
variable {X : Cx} {a b c : Expr} {ta tb tc : TE} {pos : Pos}
theorem binT (ha : PE X a ta) (hb : PE X b tb) {pins : List (Addr × Obj)} {s : Shared} {σ : St} {H : Hp} {R : V -> V -> Hp -> Prop} (I : Inv X pins σ H s)
  (h : ta σ H fun x H1 => tb σ H1 fun y H2 => R x y H2) {Q : Value -> Shared -> Prop} {f : Value -> Value -> Sem Value}
  (hf : ∀ v u s2 x y H2, Inv X pins σ H2 s2 -> RelV x v -> RelV y u -> R x y H2 -> wpAny (model X.prog X.w) X.A (f v u) Q X.xe s2) :
  wpAny (model X.prog X.w) X.A (eval a X.env) (fun v s₁ => wpAny (model X.prog X.w) X.A (eval b X.env) (fun u s₂ => wpAny (model X.prog X.w) X.A (f v u) Q X.xe s₂) X.xe s₁) X.xe s := by
 refine thn (ha pins s σ H _ I h) fun v s1 ⟨x, H1, I1, r1, q1⟩ => ?_
 refine thn (hb pins s1 σ H1 _ I1 q1) fun u s2 ⟨y, H2, I2, r2, q2⟩ => ?_
 exact hf v u s2 x y H2 I2 r1 r2 q2
theorem pe_op {op : Operator} {r : R2} (ho : OpR X (binaryOp op) r) (ha : PE X a ta) (hb : PE X b tb) : PE X (.BinOp a op b pos) (tOp r ta tb) := by
 intro pins s σ H Q I h
 exact wpAny_BinOp (binT ha hb I h fun v u s2 x y H2 I2 rx ry q => ho pins s2 σ H2 x y v u Q I2 rx ry q)
theorem pe_un {op : UnaryOp} {r : V -> Hp -> VK -> Prop} (ho : UnR X (unaryOp op) r) (ha : PE X a ta) : PE X (.UnaryOp op a pos) (tUn r ta) := by
 intro pins s σ H Q I h
 exact UnaryOp_ (thn (ha pins s σ H _ I h) fun v s1 ⟨x, H1, I1, r1, q1⟩ => ho pins s1 σ H1 x v Q I1 r1 q1)
theorem opI {f : Value -> Value -> Sem Value} {C : Int -> Int -> Prop} {g : Int -> Int -> Int}
  (rule : ∀ (i j : Int) (t u : Tok) (s : Shared) (Q : Value -> Shared -> Prop) (E : Value -> Shared -> Prop), C i j -> Q (.int (g i j) s.toks) { s with toks := s.toks + 1 } -> wpAny (model X.prog X.w) X.A (f (.int i t) (.int j u)) Q E s) :
  OpR X f (rI C fun i j => .int (g i j)) := by
 intro pins s σ H x y v u Q I rx ry h
 obtain ⟨i, j, rfl, rfl, hc, q⟩ := h
 obtain ⟨t, rfl⟩ := rx
 obtain ⟨t', rfl⟩ := ry
 exact rule i j t t' s _ _ hc ⟨.int (g i j), H, I.tok _, ⟨_, rfl⟩, q⟩
theorem opI0 {f : Value -> Value -> Sem Value} {g : Int -> Int -> Int}
  (rule : ∀ (i j : Int) (t u : Tok) (s : Shared) (Q : Value -> Shared -> Prop) (E : Value -> Shared -> Prop), Q (.int (g i j) s.toks) { s with toks := s.toks + 1 } -> wpAny (model X.prog X.w) X.A (f (.int i t) (.int j u)) Q E s) :
  OpR X f (rI0 fun i j => .int (g i j)) := by
 intro pins s σ H x y v u Q I rx ry h
 obtain ⟨i, j, rfl, rfl, q⟩ := h
 obtain ⟨t, rfl⟩ := rx
 obtain ⟨t', rfl⟩ := ry
 exact rule i j t t' s _ _ ⟨.int (g i j), H, I.tok _, ⟨_, rfl⟩, q⟩
theorem opB0 {f : Value -> Value -> Sem Value} {g : Int -> Int -> Bool}
  (rule : ∀ (i j : Int) (t u : Tok) (s : Shared) (Q : Value -> Shared -> Prop) (E : Value -> Shared -> Prop), Q (.bool (g i j)) s -> wpAny (model X.prog X.w) X.A (f (.int i t) (.int j u)) Q E s) :
  OpR X f (rI0 fun i j => .bl (g i j)) := by
 intro pins s σ H x y v u Q I rx ry h
 obtain ⟨i, j, rfl, rfl, q⟩ := h
 obtain ⟨t, rfl⟩ := rx
 obtain ⟨t', rfl⟩ := ry
 exact rule i j t t' s _ _ ⟨.bl (g i j), H, I, rfl, q⟩
theorem op_add : OpR X (binaryOp .Add) (rI0 fun i j => .int (i + j)) := opI0 fun _ _ _ _ _ _ _ q => add_int q
theorem op_sub : OpR X (binaryOp .Sub) (rI0 fun i j => .int (i - j)) := opI0 fun _ _ _ _ _ _ _ q => sub_int q
theorem op_mod : OpR X (binaryOp .Mod) (rI (fun _ j => 0 < j) fun i j => .int (i % j)) := opI fun i j _ _ _ _ _ hc q => by
 have h1 : (0 : Int) < j := hc
 exact mod_int' (by omega) (by rw [Int.fmod_eq_emod_of_nonneg i (by omega)]; exact q)
theorem unI {f : Value -> Sem Value} {g : Int -> Int}
  (rule : ∀ (i : Int) (t : Tok) (s : Shared) (Q : Value -> Shared -> Prop) (E : Value -> Shared -> Prop), Q (.int (g i) s.toks) { s with toks := s.toks + 1 } -> wpAny (model X.prog X.w) X.A (f (.int i t)) Q E s) :
  UnR X f (rU fun i => .int (g i)) := by
 intro pins s σ H x v Q I rx h
 obtain ⟨i, rfl, q⟩ := h
 obtain ⟨t, rfl⟩ := rx
 exact rule i t s _ _ ⟨.int (g i), H, I.tok _, ⟨_, rfl⟩, q⟩
theorem un_neg : UnR X (unaryOp .USub) (rU fun i => .int (-i)) := unI fun _ _ _ _ _ q => neg_int q
end
def scal : V -> V -> Bool
 | .non, .non => true | .non, .int _ => true | .int _, .non => true | .non, .bl _ => true | .bl _, .non => true | .non, .str _ => true | .str _, .non => true
 | .int _, .int _ => true | .bl _, .bl _ => true | .str _, .str _ => true | .byt _, .byt _ => true
 | .int _, .str _ => true | .str _, .int _ => true | .bl _, .str _ => true | .str _, .bl _ => true
 | _, _ => false
def rEq : R2 := fun x y H Q => scal x y = true /\ Q (.bl (decide (x = y))) H
def rNe : R2 := fun x y H Q => scal x y = true /\ Q (.bl (!decide (x = y))) H
theorem dec_int {i j : Int} : decide (V.int i = V.int j) = (i == j) := by
 rw [Bool.eq_iff_iff]
 simp
theorem dec_bl {i j : Bool} : decide (V.bl i = V.bl j) = (i == j) := by
 rw [Bool.eq_iff_iff]
 simp
theorem dec_str {i j : Str} : decide (V.str i = V.str j) = (i == j) := by
 rw [Bool.eq_iff_iff]
 simp
theorem dec_byt {i j : Array UInt8} : decide (V.byt i = V.byt j) = (i.toList == j.toList) := by
 rw [Bool.eq_iff_iff]
 cases i
 cases j
 simp
section
variable {X : Cx} {a b c : Expr} {ta tb tc : TE} {pos : Pos}
theorem fin_bl {pins : List (Addr × Obj)} {σ : St} {H : Hp} {s : Shared} {Q : VK} {k k' : Bool} (I : Inv X pins σ H s) (q : Q (.bl k) H) (e : k = k') : EP X pins σ Q (.bool k') s := by
 subst e
 exact ⟨.bl k, H, I, rfl, q⟩
theorem op_eq : OpR X (compareOp .Eq) rEq := by
 intro pins s σ H x y v u Q I rx ry h
 obtain ⟨hs, q⟩ := h
 cases x with
 | non =>
  cases rx
  cases y with
  | non => cases ry; exact PySem.EqNone.eq_none_none (fin_bl I q (by simp))
  | bl j => cases ry; exact PySem.EqNone.eq_none_bool (fin_bl I q (by simp))
  | int j => obtain ⟨t', rfl⟩ := ry; exact PySem.EqNone.eq_none_int (fin_bl I q (by simp))
  | str j => obtain ⟨t', rfl⟩ := ry; exact PySem.EqNone.eq_none_str (fin_bl I q (by simp))
  | _ => exact absurd (show false = true from hs) Bool.false_ne_true
 | bl i =>
  cases rx
  cases y with
  | non => cases ry; exact PySem.EqNone.eq_bool_none (fin_bl I q (by simp))
  | bl j => cases ry; exact eq_bool (fin_bl I q dec_bl)
  | str j => obtain ⟨t', rfl⟩ := ry; exact PySem.EqMixed.eq_bool_str (fin_bl I q (by simp))
  | _ => exact absurd (show false = true from hs) Bool.false_ne_true
 | int i =>
  obtain ⟨t, rfl⟩ := rx
  cases y with
  | non => cases ry; exact PySem.EqNone.eq_int_none (fin_bl I q (by simp))
  | int j => obtain ⟨t', rfl⟩ := ry; exact eq_int (fin_bl I q dec_int)
  | str j => obtain ⟨t', rfl⟩ := ry; exact PySem.EqMixed.eq_int_str (fin_bl I q (by simp))
  | _ => exact absurd (show false = true from hs) Bool.false_ne_true
 | str i =>
  obtain ⟨t, rfl⟩ := rx
  cases y with
  | non => cases ry; exact PySem.EqNone.eq_str_none (fin_bl I q (by simp))
  | bl j => cases ry; exact PySem.EqMixed.eq_str_bool (fin_bl I q (by simp))
  | int j => obtain ⟨t', rfl⟩ := ry; exact PySem.EqMixed.eq_str_int (fin_bl I q (by simp))
  | str j => obtain ⟨t', rfl⟩ := ry; exact eq_str (fin_bl I q dec_str)
  | _ => exact absurd (show false = true from hs) Bool.false_ne_true
 | byt i =>
  obtain ⟨t, rfl⟩ := rx
  cases y with
  | byt j => obtain ⟨t', rfl⟩ := ry; exact PySem.W.eq_bytes (fin_bl I q dec_byt)
  | _ => exact absurd (show false = true from hs) Bool.false_ne_true
 | _ => cases y <;> exact absurd (show false = true from hs) Bool.false_ne_true
theorem op_ne : OpR X (compareOp .NotEq) rNe := by
 intro pins s σ H x y v u Q I rx ry h
 obtain ⟨hs, q⟩ := h
 cases x with
 | non =>
  cases rx
  cases y with
  | non => cases ry; exact PySem.EqNone.ne_none_none (fin_bl I q (by simp))
  | bl j => cases ry; exact PySem.EqNone.ne_none_bool (fin_bl I q (by simp))
  | int j => obtain ⟨t', rfl⟩ := ry; exact PySem.EqNone.ne_none_int (fin_bl I q (by simp))
  | str j => obtain ⟨t', rfl⟩ := ry; exact PySem.EqNone.ne_none_str (fin_bl I q (by simp))
  | _ => exact absurd (show false = true from hs) Bool.false_ne_true
 | bl i =>
  cases rx
  cases y with
  | non => cases ry; exact PySem.EqNone.ne_bool_none (fin_bl I q (by simp))
  | bl j => cases ry; exact ne_bool (fin_bl I q (congrArg not dec_bl))
  | str j => obtain ⟨t', rfl⟩ := ry; exact PySem.EqMixed.ne_bool_str (fin_bl I q (by simp))
  | _ => exact absurd (show false = true from hs) Bool.false_ne_true
 | int i =>
  obtain ⟨t, rfl⟩ := rx
  cases y with
  | non => cases ry; exact PySem.EqNone.ne_int_none (fin_bl I q (by simp))
  | int j => obtain ⟨t', rfl⟩ := ry; exact ne_int (fin_bl I q (congrArg not dec_int))
  | str j => obtain ⟨t', rfl⟩ := ry; exact PySem.EqMixed.ne_int_str (fin_bl I q (by simp))
  | _ => exact absurd (show false = true from hs) Bool.false_ne_true
 | str i =>
  obtain ⟨t, rfl⟩ := rx
  cases y with
  | non => cases ry; exact PySem.EqNone.ne_str_none (fin_bl I q (by simp))
  | bl j => cases ry; exact PySem.EqMixed.ne_str_bool (fin_bl I q (by simp))
  | int j => obtain ⟨t', rfl⟩ := ry; exact PySem.EqMixed.ne_str_int (fin_bl I q (by simp))
  | str j => obtain ⟨t', rfl⟩ := ry; exact ne_str (fin_bl I q (congrArg not dec_str))
  | _ => exact absurd (show false = true from hs) Bool.false_ne_true
 | byt i =>
  obtain ⟨t, rfl⟩ := rx
  cases y with
  | byt j => obtain ⟨t', rfl⟩ := ry; exact PySem.W.ne_bytes (fin_bl I q (congrArg not dec_byt))
  | _ => exact absurd (show false = true from hs) Bool.false_ne_true
 | _ => cases y <;> exact absurd (show false = true from hs) Bool.false_ne_true
theorem op_lt : OpR X (compareOp .Lt) (rI0 fun i j => .bl (decide (i < j))) := opB0 fun _ _ _ _ _ _ _ q => lt_int q
theorem op_le : OpR X (compareOp .LtE) (rI0 fun i j => .bl (decide (i <= j))) := opB0 fun _ _ _ _ _ _ _ q => le_int q
theorem op_gt : OpR X (compareOp .Gt) (rI0 fun i j => .bl (decide (j < i))) := opB0 fun _ _ _ _ _ _ _ q => gt_int q
theorem nomark (b : Expr) {op : CmpOp} (h : op ≠ .In := by decide) (h2 : op ≠ .NotIn := by decide) : behindInMarks op b = false := by
 have e1 : (op == CmpOp.In) = false := by cases op <;> first | rfl | exact absurd rfl h
 have e2 : (op == CmpOp.NotIn) = false := by cases op <;> first | rfl | exact absurd rfl h2
 cases b <;> simp [behindInMarks, e1, e2]
theorem pe_cmpR {op : CmpOp} {r : R2} (ho : OpR X (compareOp op) r) (ha : PE X a ta) (hb : PE X b tb) (hm : behindInMarks op b = false) : PE X (.Compare a [op] [b] pos) (tOp r ta tb) := by
 intro pins s σ H Q I h
 exact wpAny_Compare1 (binT ha hb I h fun v u s2 x y H2 I2 rx ry q => ho pins s2 σ H2 x y v u Q I2 rx ry q) hm
def tTest (t : TE) : TT := fun σ H Q => t σ H fun x H' => ∃ k, x = .bl k /\ Q k H'
theorem pt_cmpR {op : CmpOp} {r : R2} (ho : OpR X (compareOp op) r) (ha : PE X a ta) (hb : PE X b tb) (hm : behindInMarks op b = false) : PT X (.Compare a [op] [b] pos) (tTest (tOp r ta tb)) := by
 intro pins s σ H Q I h
 refine wpAny_isTrue_Compare1 (thn (ha pins s σ H _ I h) fun v s1 ⟨x, H1, I1, r1, q1⟩ => thn (hb pins s1 σ H1 _ I1 q1) fun u s2 ⟨y, H2, I2, r2, q2⟩ =>
  thn (ho pins s2 σ H2 x y v u _ I2 r1 r2 q2) fun c s3 ⟨z, H3, I3, r3, k, e, q3⟩ => ?_) hm
 subst e
 cases r3
 exact wpAny_truthy_bool ⟨H3, I3, q3⟩
theorem line63 : (sizeLine : Nat) < 2 ^ 63 := by rw [sizeLine_eq]; decide
theorem vals1 {x : V} {us : List Value} (r : Vals [x] us) : ∃ u, us = [u] /\ RelV x u := by
 cases r with
 | cons r1 r2 => cases r2; exact ⟨_, rfl, r1⟩
theorem vals2 {x y : V} {us : List Value} (r : Vals [x, y] us) : ∃ u w', us = [u, w'] /\ RelV x u /\ RelV y w' := by
 cases r with
 | cons r1 r2 =>
  cases r2 with
  | cons r3 r4 => cases r4; exact ⟨_, _, rfl, r1, r3⟩
end
end L2
namespace L2
open PySem PySem.Spec PyProof.Rows
structure ObjM (h : Heap) (x dx C : Addr) (mA : Str -> Option Value) : Prop where
 obj : h.get? x = some (PySem.W.instObj C dx)
 ns : h.Ns1 dx mA
 ne : dx ≠ x
theorem lookIn_ns {h : Heap} {dx : Addr} {mA : Str -> Option Value} (n : h.Ns1 dx mA) : ∃ od, h.get? dx = some od /\ ∀ name, PySem.W.lookIn name od = some (mA name) := by
 obtain ⟨o, es, ep, ho, hd, hk, _, hm⟩ := n
 refine ⟨o, ho, fun name => ?_⟩
 have e := hm name
 unfold nsFind findBy at e
 rw [<- Array.find?_toList] at e
 unfold PySem.W.lookIn
 rw [hd]
 dsimp only
 split
 ·rename_i y q
  rw [q] at e
  exact congrArg some e
 ·rename_i q
  rw [q] at e
  have a : es.toList.any (·.refKey) = false := by
   rw [List.any_eq_false]
   intro y hy
   obtain ⟨z, t, hkey⟩ := hk y (Array.mem_toList_iff.mp hy)
   simp [DictEntry.refKey, hkey]
  have a' : ¬ es.toList.any (·.refKey) = true := by rw [a]; exact Bool.false_ne_true
  rw [if_neg a']
  exact congrArg some e
theorem ObjM.look {h : Heap} {x dx C : Addr} {mA : Str -> Option Value} (I : ObjM h x dx C mA) : ∃ od, PySem.W.InstAt h x (PySem.W.instObj C dx) C (some od) /\ ∀ name, PySem.W.lookIn name od = some (mA name) :=
 let ⟨od, ho, hl⟩ := lookIn_ns I.ns
 ⟨od, ⟨I.obj, rfl, rfl, ho⟩, hl⟩
section
variable {prog : Program} {w : World} {A : Around} {E : Value -> Shared -> Prop} {s : Shared} {K : PySem.W.Frag} {x dx C f : Addr} {mA : Str -> Option Value} {name : Str} {v : Value}
theorem get_map {expr : Bool} {Q : Value -> Shared -> Prop} (X : K.In s.heap) (I : ObjM s.heap x dx C mA) (hg : PySem.W.plainGet K C name = true) (hh : PySem.W.hasDictIn K C = true)
  (ha : PySem.W.findIn K (.ref C) name = some none) (hv : mA name = some v) (hv' : PySem.W.handedIn v = true) (h : Q v { s with toks := s.toks + 1 }) :
  wpAny (model prog w) A (getAttr (.ref x) name expr) Q E s := by
 obtain ⟨od, J, hl⟩ := I.look
 exact PySem.W.get_value X J (PySem.W.plainGet_of hg).1 (PySem.W.findObj_own hh ha rfl (by rw [hl, hv])) hv' h
theorem get_meth {pl : Sem Bool} {Q : Value × List Value -> Shared -> Prop} (X : K.In s.heap) (I : ObjM s.heap x dx C mA) (hg : PySem.W.plainGet K C name = true)
  (hf : PySem.W.findIn K (.ref C) name = some (some (.ref f))) (ht : PySem.W.isFn K (.ref f) = true) (hv : mA name = none) (h : Q (.ref f, [.ref x]) s) :
  wpAny (model prog w) A (getMethod (.ref x) name pl) Q E s := by
 obtain ⟨od, J, hl⟩ := I.look
 exact PySem.W.method_fn X J (PySem.W.plainGet_of hg).1 (PySem.W.plainGet_of hg).2 hf (beq_iff_eq.mp ht) (by show (PySem.W.lookIn name od).map (·.isSome) = some false; rw [hl, hv]; rfl) h
theorem set_map {ns : List Str} {Q : Unit -> Shared -> Prop} (X : K.In s.heap) (I : ObjM s.heap x dx C mA)
  (hs : PySem.W.findIn K (.ref C) "__setattr__" = some (some (.builtin "object.__setattr__"))) (hp : PySem.W.plainOver K C = true) (ht : PySem.W.takerIn K C name = some none) (hh : PySem.W.hasDictIn K C = true)
  (hw : PySem.Within mA ns) (hsz : ns.length <= sizeLine)
  (h : ∀ h', ObjM h' x dx C (fun y => if y = name then some v else mA y) -> Heap.SameBut dx s.heap h' -> Q () { s with heap := h', toks := s.toks + 2 }) :
  wpAny (model prog w) A (setAttr (.ref x) name v) Q E s := by
 obtain ⟨od, J, hl⟩ := I.look
 refine PySem.W.set_plain X J hs (PySem.W.osa_open (s := { s with toks := s.toks + 1 }) (r := none) X J hp ht fun b => ?_)
 obtain ⟨cd, hc, hd'⟩ := PySem.W.any_some hh
 have hx : s.heap.get? x = some ⟨.ref C, some dx, .plain, #[]⟩ := I.obj
 refine wpAny_bind (wpAny_pure (wpAny_bind (wpAny_bind (wpAny_loadPart hx (wpAny_bind (PySem.W.Looks.here (s := { s with toks := s.toks + 1 }) (PySem.W.looks_clsIn X hc) ?_))))))
 rw [hd']
 refine wpAny_pure (a := some dx) (wpAny_bind (wpAny_pure (wpAny_bind ?_)))
 refine wpAny_nsSet1 (s := { s with toks := s.toks + 1 }) I.ns fun h' hn2 hs2 => ?_
 obtain ⟨oD, esD, epD, hoD, hdD, hcD⟩ := hn2.count (PySem.Within.cons name v hw)
 refine wpAny_bind (wpAny_lookBehind hoD (by rw [hdD]; exact pastItsLine_dict (Nat.le_trans hcD (by rw [List.length_cons]; omega))) ?_)
 exact wpAny_pure (h _ ⟨(hs2.2 _ (Ne.symm I.ne)).trans I.obj, hn2, I.ne⟩ hs2)
theorem make_map {R : Result -> Shared -> Prop} {vs : List Value} {kw : List (Str × Value)} (X : K.In s.heap) (hm : PySem.W.makesIn K C = true)
  (hi : PySem.W.findIn K (.ref C) "__init__" = some (some (.ref f))) (hf : PySem.W.typeIn K (.ref f) = some (.type "function"))
  (h : codeAny (model prog w) (A.under (.builtin "type.__call__" ⟨.ref C :: vs, kw⟩)) (.call (.ref f) ⟨.ref (s.heap.objs.size + 1) :: vs, kw⟩) (PySem.W.InitBack (s.heap.objs.size + 1) R)
   { s with heap := (s.heap.push PySem.W.emptyDict).push (PySem.W.instObj C s.heap.objs.size) }) :
  codeAny (model prog w) A (.call (.ref C) ⟨vs, kw⟩) R s := by
 obtain ⟨hh, g, d, t, os⟩ := s
 exact PySem.W.make_core (PySem.W.makes_of X hm) (PySem.W.looks_findIn X hi) (fun self => PySem.W.bind_fn X self hf) (.inl rfl) h
end
def putF (f : Str) (v : V) : List (Str × V) -> List (Str × V)
 | [] => [(f, v)]
 | (g, x) :: r => if g = f then (g, v) :: r else (g, x) :: putF f v r
theorem lookup_putF (f g : Str) (v : V) : ∀ fs : List (Str × V), (putF f v fs).lookup g = if g = f then some v else fs.lookup g
 | [] => by
  show List.lookup g [(f, v)] = _
  by_cases h : g = f
  ·have hb : (g == f) = true := beq_iff_eq.mpr h
   simp only [List.lookup, hb, if_pos h]
  ·have hb : (g == f) = false := beq_eq_false_iff_ne.mpr h
   simp only [List.lookup, hb, if_neg h]
 | (k, x) :: r => by
  have ih := lookup_putF f g v r
  rw [show putF f v ((k, x) :: r) = (if k = f then (k, v) :: r else (k, x) :: putF f v r) from rfl]
  by_cases hk : k = f
  ·rw [if_pos hk]
   by_cases h : g = k
   ·have hb : (g == k) = true := beq_iff_eq.mpr h
    simp only [List.lookup, hb, if_pos (h.trans hk)]
   ·have hb : (g == k) = false := beq_eq_false_iff_ne.mpr h
    simp only [List.lookup, hb, if_neg (fun e : g = f => h (e.trans hk.symm))]
  ·rw [if_neg hk]
   by_cases h : g = k
   ·have hb : (g == k) = true := beq_iff_eq.mpr h
    simp only [List.lookup, hb, if_neg (fun e : g = f => hk (h.symm.trans e))]
   ·have hb : (g == k) = false := beq_eq_false_iff_ne.mpr h
    simp only [List.lookup, hb]
    exact ih
theorem keys_putF (f : Str) (v : V) : ∀ fs : List (Str × V), f ∈ (putF f v fs).map (·.1) /\ ∀ g, g ∈ fs.map (·.1) -> g ∈ (putF f v fs).map (·.1)
 | [] => ⟨by simp [putF], fun g h => by simp at h⟩
 | (k, x) :: r => by
  obtain ⟨i1, i2⟩ := keys_putF f v r
  rw [show putF f v ((k, x) :: r) = (if k = f then (k, v) :: r else (k, x) :: putF f v r) from rfl]
  by_cases hk : k = f
  ·rw [if_pos hk]
   subst hk
   exact ⟨by simp, fun g h => by simpa using h⟩
  ·rw [if_neg hk]
   refine ⟨?_, fun g h => ?_⟩
   ·rw [List.map_cons]
    exact List.mem_cons_of_mem _ i1
   ·rw [List.map_cons] at h ⊢
    rcases List.mem_cons.mp h with e | e
    ·exact List.mem_cons.mpr (.inl e)
    ·exact List.mem_cons_of_mem _ (i2 g e)
theorem length_putF (f : Str) (v : V) : ∀ fs : List (Str × V), (putF f v fs).length <= fs.length + 1
 | [] => by simp [putF]
 | (k, x) :: r => by
  have ih := length_putF f v r
  rw [show putF f v ((k, x) :: r) = (if k = f then (k, v) :: r else (k, x) :: putF f v r) from rfl]
  by_cases hk : k = f
  ·rw [if_pos hk, List.length_cons, List.length_cons]; omega
  ·rw [if_neg hk, List.length_cons, List.length_cons]; omega
theorem RelO.some_of {v : V} {o : Option Value} (r : RelO (some v) o) : ∃ u, o = some u /\ RelV v u := by
 cases o with
 | none => exact (show False from r).elim
 | some u => exact ⟨u, rfl, r⟩
theorem RelO.none_of {o : Option Value} (r : RelO none o) : o = none := by
 cases o with
 | none => rfl
 | some u => exact (show False from r).elim
theorem handed_of {v : V} {u : Value} (r : RelV v u) : PySem.W.handedIn u = true := by
 cases v with
 | non => cases (show u = Value.none from r); rfl
 | bl b => cases (show u = Value.bool b from r); rfl
 | int i => obtain ⟨t, e⟩ := (show ∃ t, u = Value.int i t from r); cases e; rfl
 | str x => obtain ⟨t, e⟩ := (show ∃ t, u = Value.str x t from r); cases e; rfl
 | byt b => obtain ⟨t, e⟩ := (show ∃ t, u = Value.bytes b t from r); cases e; rfl
 | flt b => obtain ⟨t, e⟩ := (show ∃ t, u = Value.float b t from r); cases e; rfl
 | ref a => cases (show u = Value.ref a from r); rfl
 | ty n => cases (show u = Value.type n from r); rfl
section
variable {P : Program} {w : World} {H H' : Hp} {h h' : Heap} {a C dx : Addr} {fs fs' : List (Str × V)}
theorem ins_get (hok : HOk P w H h) (e : H a = some (.ins C dx fs)) : ∃ mA, ObjM h a dx C mA /\ (∀ f, RelO (fs.lookup f) (mA f)) /\ PySem.Within mA (fs.map (·.1)) /\ fs.length <= 1000 /\ H dx = some (.own a) := by
 obtain ⟨d, z, ne, ob, mA, n, r, q⟩ := (show ObjOk P w H h a (.ins C dx fs) from hok a _ e)
 exact ⟨mA, ⟨ob, n, ne⟩, r, q, z, d⟩
end
structure Cls (K : PySem.W.Frag) (C : Addr) : Prop where
 pg : PySem.W.plainGet K C Str.empty = true
 hd : PySem.W.hasDictIn K C = true
 po : PySem.W.plainOver K C = true
 sa : PySem.W.findIn K (.ref C) "__setattr__" = some (some (.builtin "object.__setattr__"))
theorem Cls.get {K : PySem.W.Frag} {C : Addr} (c : Cls K C) (f : Str) : PySem.W.plainGet K C f = true := c.pg
def NoAttr (K : PySem.W.Frag) (C : Addr) (f : Str) : Prop := PySem.W.findIn K (.ref C) f = some none
theorem NoAttr.taker {K : PySem.W.Frag} {C : Addr} {f : Str} (n : NoAttr K C f) : PySem.W.takerIn K C f = some none := by
 unfold PySem.W.takerIn
 rw [show PySem.W.findIn K (.ref C) f = some none from n]
 rfl
structure Meth (K : PySem.W.Frag) (C : Addr) (m : Str) (f : Addr) : Prop where
 at_ : PySem.W.findIn K (.ref C) m = some (some (.ref f))
 fn : PySem.W.isFn K (.ref f) = true
 kp : PySem.W.keepIn K (.ref f) = true
section
variable {X : Cx} {pins : List (Addr × Obj)} {σ : St} {H : Hp} {s : Shared} {a C dx : Addr} {fs : List (Str × V)} {f : Str} {v : V} {A : Around} {E : Value -> Shared -> Prop}
theorem getattr_ok {b : Bool} {Q : Value -> Shared -> Prop} (I : Inv X pins σ H s) (e : H a = some (.ins C dx fs)) (c : Cls X.K C) (n : NoAttr X.K C f) (l : fs.lookup f = some v)
  (h : ∀ u s', Inv X pins σ H s' -> RelV v u -> Q u s') : wpAny (model X.prog X.w) A (getAttr (.ref a) f b) Q E s := by
 obtain ⟨mA, O, r, _, _, _⟩ := ins_get I.hok e
 obtain ⟨u, hu, ru⟩ := RelO.some_of (v := v) (o := mA f) (by rw [<- l]; exact r f)
 exact get_map I.kIn O (c.get f) c.hd n hu (handed_of ru) (h u _ (I.tok _) ru)
theorem getmeth_ok {m : Str} {g : Addr} {pl : Sem Bool} {Q : Value × List Value -> Shared -> Prop} (I : Inv X pins σ H s) (e : H a = some (.ins C dx fs)) (c : Cls X.K C) (k : Meth X.K C m g) (l : fs.lookup m = none)
  (h : Q (.ref g, [.ref a]) s) : wpAny (model X.prog X.w) A (getMethod (.ref a) m pl) Q E s := by
 obtain ⟨mA, O, r, _, _, _⟩ := ins_get I.hok e
 have hn : mA m = none := RelO.none_of (by rw [<- l]; exact r m)
 exact get_meth I.kIn O (c.get m) k.at_ k.fn hn h
theorem setattr_ok {y : V} {u : Value} {Q : Unit -> Shared -> Prop} (I : Inv X pins σ H s) (e : H a = some (.ins C dx fs)) (c : Cls X.K C) (n : NoAttr X.K C f) (hl : fs.length < 1000) (ry : RelV y u)
  (h : ∀ s', Inv X pins σ (upd H a (.ins C dx (putF f y fs))) s' -> Q () s') : wpAny (model X.prog X.w) A (setAttr (.ref a) f u) Q E s := by
 obtain ⟨mA, O, r, wi, _, ho⟩ := ins_get I.hok e
 have hz : (fs.map (·.1)).length <= sizeLine := by rw [List.length_map, sizeLine_eq]; omega
 refine set_map I.kIn O c.sa c.po n.taker c.hd wi hz fun h' O' sb => h _ ?_
 have hd : ∃ o, h'.get? dx = some o := let ⟨o, _, _, e', _⟩ := O'.ns; ⟨o, e'⟩
 refine I.write (x := a) (e := dx) (by rw [e]; exact True.intro) (.inr ho) (fun b q hb z => (sb.2 b hb).trans z) hd ?_
 refine ⟨by rw [upd_ne O.ne]; exact ho, ?_, O.ne, O'.obj, _, O'.ns, fun g => ?_, fun g hg => ?_⟩
 ·have := length_putF f y fs; omega
 ·show RelO ((putF f y fs).lookup g) (if g = f then some u else mA g)
  rw [lookup_putF]
  by_cases q : g = f
  ·rw [if_pos q, if_pos q]; exact ry
  ·rw [if_neg q, if_neg q]; exact r g
 ·by_cases q : g = f
  ·rw [q]; exact (keys_putF f y fs).1
  ·refine (keys_putF f y fs).2 g (wi g fun z => hg ?_)
   show (if g = f then some u else mA g) = none
   rw [if_neg q]; exact z
theorem Inv.made (I : Inv X pins σ H s) : Inv X pins σ (upd (upd H s.heap.objs.size (.own (s.heap.objs.size + 1))) (s.heap.objs.size + 1) (.ins C s.heap.objs.size []))
  { s with heap := (s.heap.push PySem.W.emptyDict).push (PySem.W.instObj C s.heap.objs.size) } := by
 have e1 : (s.heap.push PySem.W.emptyDict).get? s.heap.objs.size = some PySem.W.emptyDict := Heap.get?_push_size s.heap rfl
 have e2 : ((s.heap.push PySem.W.emptyDict).push (PySem.W.instObj C s.heap.objs.size)).get? (s.heap.objs.size + 1) = some (PySem.W.instObj C s.heap.objs.size) := by
  have := Heap.get?_push_size (s.heap.push PySem.W.emptyDict) (o := PySem.W.instObj C s.heap.objs.size) rfl
  rwa [Heap.size_push] at this
 have e3 : (s.heap.push PySem.W.emptyDict).Ns s.heap.objs.size (fun _ => none) := ⟨PySem.W.emptyDict, #[], _, e1, rfl, (fun e he => absurd he (by simp)), fun _ => rfl⟩
 have I1 := I.laid (a := s.heap.objs.size) (o := .own (s.heap.objs.size + 1)) (h' := s.heap.push PySem.W.emptyDict) (t' := s.toks) (fun b u q => Heap.get?_push_of_some _ q) (Nat.le_refl _) ⟨_, e1⟩
 refine I1.laid (a := s.heap.objs.size + 1) (o := .ins C s.heap.objs.size []) (t' := s.toks) (fun b u q => Heap.get?_push_of_some _ q) (Nat.le_of_eq (Heap.size_push _ _)) ?_
 have ne : s.heap.objs.size ≠ s.heap.objs.size + 1 := Nat.ne_of_lt (Nat.lt_succ_self _)
 refine ⟨by rw [upd_ne ne, upd_same], Nat.zero_le _, ne, e2, fun _ => none, (Heap.Ns1.of_empty e3).at fun o q => Heap.get?_push_of_some _ q, fun _ => True.intro, fun y hy => absurd rfl hy⟩
theorem attr_of {prog : Program} {w : World} {env : Env} {e : Expr} {f : Str} {pos : Pos} {s : Shared} {Q : Value -> Shared -> Prop} (hb : attributeBase e f env (eval e env) = eval e env)
  (h : wpAny (model prog w) A (eval e env) (fun o s₁ => wpAny (model prog w) A (getAttr o f true) Q E s₁) E s) : wpAny (model prog w) A (eval (.Attribute e f pos) env) Q E s :=
 Attribute_any_ h (by rw [arm_eval_Attribute, hb])
end
def tFld (K : PySem.W.Frag) (ta : TE) (f : Str) : TE := fun σ H Q => ta σ H fun x H1 => ∃ a C dx fs v, x = .ref a /\ H1 a = some (.ins C dx fs) /\ Cls K C /\ NoAttr K C f /\ fs.lookup f = some v /\ Q v H1
def sFld (K : PySem.W.Frag) (ta tv : TE) (f : Str) : TS := fun D σ H => tv σ H fun y H1 => ta σ H1 fun x H2 => ∃ a C dx fs, x = .ref a /\ H2 a = some (.ins C dx fs) /\ Cls K C /\ NoAttr K C f /\ fs.length < 1000 /\
 D.nx σ (upd H2 a (.ins C dx (putF f y fs)))
def InOp (X : Cx) (op : Operator) (rd : V -> V -> Hp -> VK -> Prop) : Prop :=
 ∀ (pins : List (Addr × Obj)) (s : Shared) (σ : St) (H : Hp) (x y : V) (u v : Value) (Q : VK), Inv X pins σ H s -> RelV x u -> RelV y v -> rd x y H Q -> wpAny (model X.prog X.w) X.A (inplaceOp op u v) (EP X pins σ Q) X.xe s
def sFldAug (K : PySem.W.Frag) (ta tv : TE) (rd : V -> V -> Hp -> VK -> Prop) (f : Str) : TS := fun D σ H => ta σ H fun x H1 => ∃ a C dx fs v, x = .ref a /\ H1 a = some (.ins C dx fs) /\ Cls K C /\ NoAttr K C f /\ fs.lookup f = some v /\
 tv σ H1 fun y H2 => rd v y H2 fun z H3 => ∃ dx' fs', H3 a = some (.ins C dx' fs') /\ fs'.length < 1000 /\ D.nx σ (upd H3 a (.ins C dx' (putF f z fs')))
section
variable {X : Cx} {o e value : Expr} {f : Str} {pos pos' tpos : Pos} {ta tv : TE}
theorem pe_fld (he : PE X e ta) (hb : attributeBase e f X.env (eval e X.env) = eval e X.env) : PE X (.Attribute e f pos) (tFld X.K ta f) := by
 intro pins s σ H Q I h
 refine attr_of hb (thn (he pins s σ H _ I h) fun u s1 ⟨x, H1, I1, rx, a, C, dx, fs, v, ex, ea, c, n, l, q⟩ => ?_)
 subst ex
 obtain rfl : u = Value.ref a := rx
 exact getattr_ok I1 ea c n l fun u' s2 I2 ru => ⟨v, H1, I2, ru, q⟩
theorem ps_fld (ha : PE X o ta) (hv : PE X value tv) (hs : swapsWith value (some (.Attribute o f pos')) pos.line X.env = pure false) : PS X (.Assign [.Attribute o f pos'] value pos) (sFld X.K ta tv f) := by
 intro pins s σ H D I h
 refine plainObj_wpAny_Assign_Attribute (thn (hv pins s σ H _ I h) fun u s1 ⟨y, H1, I1, ry, q⟩ => thn (ha pins s1 σ H1 _ I1 q) fun ov s2 ⟨x, H2, I2, rx, a, C, dx, fs, ex, ea, c, n, l, q2⟩ => ?_) hs
 subst ex
 obtain rfl : ov = Value.ref a := rx
 exact setattr_ok I2 ea c n l ry fun s3 I3 => ⟨σ, _, I3, q2⟩
theorem ps_fldaug {op : Operator} {rd : V -> V -> Hp -> VK -> Prop} (ha : PE X o ta) (hv : PE X value tv) (hop : InOp X op rd) : PS X (.AugAssign (.Attribute o f tpos) op value pos) (sFldAug X.K ta tv rd f) := by
 intro pins s σ H D I h
 refine wpAny_AugAssign_AttributeAny (thn (ha pins s σ H _ I h) fun ov s1 ⟨x, H1, I1, rx, a, C, dx, fs, v, ex, ea, c, n, l, q⟩ => ?_)
 subst ex
 obtain rfl : ov = Value.ref a := rx
 refine getattr_ok I1 ea c n l fun u s2 I2 ru => thn (hv pins s2 σ H1 _ I2 q) fun w3 s3 ⟨y, H2, I3, ry, q3⟩ => thn (hop pins s3 σ H2 v y u w3 _ I3 ru ry q3) fun w4 s4 ⟨z, H3, I4, rz, dx', fs', ea', l', q4⟩ => ?_
 exact setattr_ok I4 ea' c n l' rz fun s5 I5 => ⟨σ, _, I5, q4⟩
def rAdd : V -> V -> Hp -> VK -> Prop := fun x y H Q => ∃ i j, x = .int i /\ y = .int j /\ Q (.int (i + j)) H
theorem in_add : InOp X .Add rAdd := by
 rintro pins s σ H x y u v Q I rx ry ⟨i, j, rfl, rfl, q⟩
 obtain ⟨t, rfl⟩ := (show ∃ t, u = Value.int i t from rx)
 obtain ⟨t', rfl⟩ := (show ∃ t', v = Value.int j t' from ry)
 exact PyProof.Rows.iadd_int ⟨.int (i + j), H, I.tok _, ⟨_, rfl⟩, q⟩
theorem methcall_of {pl : Sem Bool} {m : Str} {apos : Pos} {args : List Expr} {pins : List (Addr × Obj)} {s : Shared} {σ : St} {H : Hp} {Q : Value -> Shared -> Prop} {te : TE} (he : PE X e te) (I : Inv X pins σ H s)
  (h : te σ H fun x H1 => ∃ a C dx fs g, x = .ref a /\ H1 a = some (.ins C dx fs) /\ Cls X.K C /\ Meth X.K C m g /\ fs.lookup m = none /\
   ∀ s1, Inv X pins σ H1 s1 -> wpAny (model X.prog X.w) X.A (callWith pos (.ref g) [.ref a] (backTo pos (starEach args X.env)) (backToKw pos (keywordEach [] X.env))) Q X.xe s1)
  (ht : eval (.Call (.Attribute e m apos) args [] pos) X.env = (do
   let ov <- eval e X.env
   standAt apos.atName
   let (f, first) <- holding [ov] (getMethod ov m pl)
   callWith pos f first (backTo pos (starEach args X.env)) (backToKw pos (keywordEach [] X.env)))) :
  wpAny (model X.prog X.w) X.A (eval (.Call (.Attribute e m apos) args [] pos) X.env) Q X.xe s := by
 refine PySem.W.methodCall_KW (pl := pl) (thn (he pins s σ H _ I h) fun u s1 ⟨x, H1, I1, rx, a, C, dx, fs, g, ex, ea, c, k, l, q⟩ => ?_) ht
 subst ex
 obtain rfl : u = Value.ref a := rx
 exact getmeth_ok I1 ea c k l (q s1 I1)
end
end L2
namespace L2
open PySem PySem.Spec PyProof.Rows
structure Room (k : Nat) (A : Around) : Prop where
 hd : A.handled = none
 dp : A.depth + 3 * k + 5 < recursionLimit
 un : A.units + 16 * k + 200 < cLine
theorem Room.mono {j k : Nat} {A : Around} (r : Room k A) (h : j <= k) : Room j A := ⟨r.hd, by have := r.dp; omega, by have := r.un; omega⟩
theorem Room.deeper {k : Nat} {A : Around} (r : Room (k + 1) A) (env : Env) : Room k (A.deeper env) :=
 ⟨r.hd, by have := r.dp; show A.depth + 1 + 3 * k + 5 < _; omega, by have := r.un; show A.units + 3 + 16 * k + 200 < _; omega⟩
theorem make_depth {A : Around} {C : Addr} {us : List Value} {kw : List (Str × Value)} : (A.under (.builtin "type.__call__" ⟨.ref C :: us, kw⟩)).depth = A.depth + 1 := by
 first | rfl | simp [Around.under, Code.weight, Code.isCreation, Code.isGuard, Code.isCaller, Code.frames, Code.isFrame, guardIds]
theorem make_units {A : Around} {C : Addr} {us : List Value} {kw : List (Str × Value)} : (A.under (.builtin "type.__call__" ⟨.ref C :: us, kw⟩)).units = A.units + 1 := by
 first | rfl | simp [Around.under, Code.cUnits, Code.frames, Code.isFrame]
theorem Room.make {k : Nat} {A : Around} (r : Room (k + 1) A) (C : Addr) (us : List Value) (kw : List (Str × Value)) : Room k (A.under (.builtin "type.__call__" ⟨.ref C :: us, kw⟩)) :=
 ⟨r.hd, by have := r.dp; rw [make_depth]; omega, by have := r.un; rw [make_units]; omega⟩
theorem Room.depth {k : Nat} {A : Around} (r : Room k A) : A.depth < recursionLimit := by have := r.dp; omega
theorem Room.units {k : Nat} {A : Around} (r : Room k A) : A.units + 64 < cLine := by have := r.un; omega
def tNil : TA := fun _ H Q => Q [] H
def tCons (ta : TE) (tr : TA) : TA := fun σ H Q => ta σ H fun x H1 => tr σ H1 fun xs H2 => Q (x :: xs) H2
section
variable {X : Cx} {e : Expr} {es : List Expr} {te : TE} {t : TA} {pos : Pos}
theorem pa_nil : PA X [] tNil := fun _ _ _ _ H Q I h => Calls.spliced_nil ⟨[], H, I, .nil, h⟩
theorem pa_cons (ha : PE X e te) (hr : PA X es t) (hs : starEach (e :: es) X.env = (false, eval e X.env) :: starEach es X.env := by rfl) : PA X (e :: es) (tCons te t) := by
 intro pos pins s σ H Q I h
 rw [hs]
 show wpAny _ _ (spliced ((false, eval e X.env) :: backTo pos (starEach es X.env))) _ _ s
 refine Calls.spliced_cons (thn (ha pins s σ H _ I h) fun u s1 ⟨x, H1, I1, r1, q1⟩ => ?_)
 exact thn (hr pos pins s1 σ H1 _ I1 q1) fun us s2 ⟨xs, H2, I2, r2, q2⟩ => ⟨x :: xs, H2, I2, .cons r1 r2, q2⟩
def tTup (t : TA) : TE := fun σ H Q => t σ H fun xs H1 => xs.length <= sizeLine /\ ∀ p, H1 p = none -> Q (.ref p) (upd H1 p (.tup xs))
def tLst (t : TA) : TE := fun σ H Q => t σ H fun xs H1 => xs.length <= sizeLine /\ ∀ p, H1 p = none -> Q (.ref p) (upd H1 p (.lst xs))
theorem pe_tup {x1} (h : PA X es t) : PE X (.Tuple es x1 pos) (tTup t) := by
 intro pins s σ H Q I hq
 refine wpAny_Tuple_spliced (thn (h pos pins s σ H _ I hq) fun us s1 ⟨xs, H1, I1, r, z, q⟩ => ⟨by rw [<- r.length]; exact z, ?_⟩)
 have hf : H1 s1.heap.objs.size = none := I1.hok.fresh (Nat.le_refl _)
 refine ⟨.ref s1.heap.objs.size, upd H1 s1.heap.objs.size (.tup xs), I1.laid (t' := s1.toks) (fun b u e => Heap.get?_push_of_some _ e) (Nat.le_refl _) ?_, rfl, q _ hf⟩
 exact ⟨z, us, r, ⟨_, Heap.get?_push_size _ rfl, rfl, _, rfl, rfl⟩⟩
theorem pe_lst (h : PA X es t) : PE X (.List es pos) (tLst t) := by
 intro pins s σ H Q I hq
 refine wpAny_List_spliced (thn (h pos pins s σ H _ I hq) fun us s1 ⟨xs, H1, I1, r, z, q⟩ => ⟨by rw [<- r.length]; exact z, ?_⟩)
 have hf : H1 s1.heap.objs.size = none := I1.hok.fresh (Nat.le_refl _)
 refine ⟨.ref s1.heap.objs.size, upd H1 s1.heap.objs.size (.lst xs), I1.laid (t' := s1.toks) (fun b u e => Heap.get?_push_of_some _ e) (Nat.le_refl _) ?_, rfl, q _ hf⟩
 exact ⟨z, us, 0, r, Heap.get?_push_size _ rfl⟩
end
abbrev Sp := List V -> Hp -> VK -> XK -> Prop
abbrev CXT := List Env -> Hp -> Shared -> XK -> Value -> Shared -> Prop
structure Env0 (P : Program) (w : World) (K : PySem.W.Frag) (mg : Str -> Option Value) (base : Heap) (A : Around) (outer : List Env) (s : Shared) (H : Hp) : Prop where
 frames : A.frames = some outer
 mod : Mod K mg base
 bs : ∀ b o, base.get? b = some o -> s.heap.get? b = some o /\ H b = none
 bsz : base.objs.size <= s.heap.objs.size
 funs : s.heap.FunFrames base outer
 frf : ∀ b ∈ frs outer, H b = none
 hok : HOk P w H s.heap
 bare : AllBare s.gens
def CE (outer : List Env) (P : Program) (w : World) (H : Hp) (s : Shared) (Q : VK) (u : Value) (s' : Shared) : Prop :=
 ∃ v H', s'.os = s.os /\ AllBare s'.gens /\ Un (frs outer) [] H H' s.heap s'.heap /\ HOk P w H' s'.heap /\ RelV v u /\ Q v H'
def CR (CX : CXT) (outer : List Env) (P : Program) (w : World) (H : Hp) (s : Shared) (Q : VK) (E : XK) (r : Result) (s' : Shared) : Prop :=
 match r with
 | .ok (.ret u) => CE outer P w H s Q u s'
 | .ok _ => False
 | .error e => CX outer H s E e s'
structure FnOk (P : Program) (w : World) (K : PySem.W.Frag) (mg : Str -> Option Value) (base : Heap) (CX : CXT) (k : Nat) (f : Addr) (fd : FuncData) (ps : List Str) (sp : Sp) : Prop where
 len : ∀ vs H Q E, sp vs H Q E -> vs.length = ps.length
 run : ∀ (A : Around) (outer : List Env) (s : Shared) (H : Hp) (args : Args) (us : List Value) (vs : List V) (Q : VK) (E : XK), Room k A -> Env0 P w K mg base A outer s H -> BindsTo s fd args (ps.zip us) -> Vals vs us -> sp vs H Q E ->
  codeAny (model P w) A (.call (.ref f) args) (CR CX outer P w H s Q E) s
theorem FnOk.mono {P : Program} {w : World} {K : PySem.W.Frag} {mg : Str -> Option Value} {base : Heap} {CX : CXT} {j k : Nat} {f : Addr} {fd : FuncData} {ps : List Str} {sp : Sp} (F : FnOk P w K mg base CX j f fd ps sp) (h : j <= k) :
  FnOk P w K mg base CX k f fd ps sp := ⟨F.len, fun A outer s H args us vs Q E hr => F.run A outer s H args us vs Q E (hr.mono h)⟩
theorem Env0.make {P : Program} {w : World} {K : PySem.W.Frag} {mg : Str -> Option Value} {base : Heap} {A : Around} {outer : List Env} {s : Shared} {H : Hp} (e : Env0 P w K mg base A outer s H) (C : Addr) (us : List Value) (kw : List (Str × Value)) :
  Env0 P w K mg base (A.under (.builtin "type.__call__" ⟨.ref C :: us, kw⟩)) outer s H := ⟨by first | exact e.frames | (simpa [Around.under, Code.envs, Code.isFrame, pushEnvs] using e.frames), e.mod, e.bs, e.bsz, e.funs, e.frf, e.hok, e.bare⟩
section
variable {X : Cx} {pins : List (Addr × Obj)} {σ : St} {H : Hp} {s s' : Shared}
theorem Inv.env0 (I : Inv X pins σ H s) : Env0 X.prog X.w X.K X.mg X.base X.A X.stack s H :=
 ⟨I.ok.frames, I.ok.mod, I.bs, Nat.le_trans I.ok.bsz I.sz, I.stack, I.stkFree, I.hok, I.bare⟩
theorem Inv.after {Q : VK} {u : Value} (I : Inv X pins σ H s) (h : CE X.stack X.prog X.w H s Q u s') : EP X pins σ Q u s' := by
 obtain ⟨v, H', os, bare, un, hok, r, q⟩ := h
 obtain ⟨hh, g, d, t, os'⟩ := s'
 obtain rfl : os' = s.os := os
 exact ⟨v, H', I.call (h' := hh) (g' := g) (d' := d) (t' := t) (ch := []) un hok bare (fun b z => absurd z (by simp)), r, q⟩
end
def tCall (sp : Sp) (dvs : List V) (E : XK) (t : TA) : TE := fun σ H Q => t σ H fun vs H1 => sp (vs ++ dvs) H1 Q E
def tMeth (C : Addr) (m : Str) (sp : Sp) (dvs : List V) (E : XK) (ta : TE) (t : TA) : TE := fun σ H Q => ta σ H fun x H1 => ∃ a dx fs, x = .ref a /\ H1 a = some (.ins C dx fs) /\ fs.lookup m = none /\
 t σ H1 fun vs H2 => sp (x :: (vs ++ dvs)) H2 Q E
def tMake (C : Addr) (sp : Sp) (dvs : List V) (E : XK) (t : TA) : TE := fun σ H Q => t σ H fun vs H1 => ∀ x dx, H1 x = none -> H1 dx = none -> dx ≠ x ->
 sp (.ref x :: (vs ++ dvs)) (upd (upd H1 dx (.own x)) x (.ins C dx [])) (fun v H2 => v = .non /\ Q (.ref x) H2) E
def Binds (K : PySem.W.Frag) (fd : FuncData) (ps : List Str) (ds : List Value) : Prop :=
 ∀ (s : Shared) (us : List Value), K.In s.heap -> (us ++ ds).length = ps.length -> BindsTo s fd ⟨us, []⟩ (ps.zip (us ++ ds))
theorem Binds.all {K : PySem.W.Frag} {fd : FuncData} {ps : List Str} (h : ∀ us : List Value, us.length = ps.length -> bindArgs fd ⟨us, []⟩ = pure (ps.zip us)) : Binds K fd ps [] := fun s us _ hl => by
 rw [List.append_nil] at hl ⊢
 exact .of_eq (h us hl)
def Passes (CX : CXT) (X : Cx) (E : XK) : Prop := ∀ (pins : List (Addr × Obj)) (σ : St) (H : Hp) (s : Shared) (e : Value) (s' : Shared), Inv X pins σ H s -> CX X.stack H s E e s' -> X.xe e s'
section
variable {X : Cx} {CX : CXT} {k : Nat} {f C : Addr} {fd : FuncData} {ps : List Str} {sp : Sp} {dvs : List V} {ds : List Value} {E : XK} {x m : Str} {p pos apos : Pos} {e o : Expr} {es : List Expr} {ta : TE} {t : TA}
theorem run_fn {pins : List (Addr × Obj)} {σ : St} {H : Hp} {s : Shared} {Q : VK} {us : List Value} {vs : List V} (F : FnOk X.prog X.w X.K X.mg X.base CX k f fd ps sp) (hr : Room k X.A) (hb : Binds X.K fd ps ds) (hd : Vals dvs ds) (hx : Passes CX X E)
  (I : Inv X pins σ H s) (r : Vals vs us) (h : sp (vs ++ dvs) H Q E) : wpAny (model X.prog X.w) X.A (call (.ref f) us) (EP X pins σ Q) X.xe s := by
 have r2 : Vals (vs ++ dvs) (us ++ ds) := r.append hd
 have hl : (us ++ ds).length = ps.length := by rw [<- r2.length]; exact F.len _ _ _ _ h
 refine wpAny_call (codeAny_mono (F.run X.A X.stack s H ⟨us, []⟩ (us ++ ds) (vs ++ dvs) Q E hr I.env0 (hb s us I.kIn hl) r2 h) fun r s' hq => ?_)
 cases r with
 | error e => exact hx pins σ H s e s' I hq
 | ok fl =>
  cases fl with
  | ret u => exact I.after hq
  | next => exact False.elim hq
  | brk => exact False.elim hq
  | cont => exact False.elim hq
theorem pe_call (F : FnOk X.prog X.w X.K X.mg X.base CX k f fd ps sp) (hr : Room k X.A) (hg : Gl X x) (hm : X.mg x = some (.ref f)) (hk : PySem.W.keepIn X.K (.ref f) = true) (hb : Binds X.K fd ps ds) (hd : Vals dvs ds) (hx : Passes CX X E)
  (ha : PA X (e :: es) t) (hdb : (x == ("__debug__" : Str)) = false := by decide) (he : starEach (e :: es) X.env = (false, eval e X.env) :: starEach es X.env := by rfl) (hpl : (backTo pos (starEach es X.env)).any (·.1) = false := by rfl) :
  PE X (.Call (.Name x p) (e :: es) [] pos) (tCall sp dvs E t) := by
 intro pins s σ H Q I h
 refine wpAny_Call_Name_kw (ld_glob I hg hm ?_ hdb)
 refine PySem.W.callWith_K (h₀ := X.base) I.ok.mod.kin hk (thn (ha pos pins s σ H _ I h) fun us s1 ⟨vs, H1, I1, r, q⟩ => ⟨I1.kIn, ?_⟩) he hpl
 exact run_fn F hr hb hd hx I1 r q
theorem pe_meth {pl : Sem Bool} (he : PE X o ta) (c : Cls X.K C) (hm : Meth X.K C m f) (F : FnOk X.prog X.w X.K X.mg X.base CX k f fd ps sp) (hr : Room k X.A) (hb : Binds X.K fd ps ds) (hd : Vals dvs ds) (hx : Passes CX X E) (ha : PA X (e :: es) t)
  (hst : starEach (e :: es) X.env = (false, eval e X.env) :: starEach es X.env := by rfl) (hpl : (backTo pos (starEach es X.env)).any (·.1) = false := by rfl)
  (ht : eval (.Call (.Attribute o m apos) (e :: es) [] pos) X.env = (do
   let ov <- eval o X.env
   standAt apos.atName
   let (f, first) <- holding [ov] (getMethod ov m pl)
   callWith pos f first (backTo pos (starEach (e :: es) X.env)) (backToKw pos (keywordEach [] X.env))) := by rfl) :
  PE X (.Call (.Attribute o m apos) (e :: es) [] pos) (tMeth C m sp dvs E ta t) := by
 intro pins s σ H Q I h
 refine PySem.W.methodCall_KW (pl := pl) (thn (he pins s σ H _ I h) fun u s1 ⟨x, H1, I1, rx, a, dx, fs, ex, ea, l, q⟩ => ?_) ht
 subst ex
 obtain rfl : u = Value.ref a := rx
 refine getmeth_ok I1 ea c hm l ?_
 refine PySem.W.callWith_K (first := [.ref a]) (h₀ := X.base) I.ok.mod.kin hm.kp (thn (ha pos pins s1 σ H1 _ I1 q) fun us s2 ⟨vs, H2, I2, r, q2⟩ => ⟨I2.kIn, ?_⟩) hst hpl
 exact run_fn (us := .ref a :: us) (vs := .ref a :: vs) F hr hb hd hx I2 (.cons rfl r) q2
theorem pe_meth0 {pl : Sem Bool} (he : PE X o ta) (c : Cls X.K C) (hm : Meth X.K C m f) (F : FnOk X.prog X.w X.K X.mg X.base CX k f fd ps sp) (hr : Room k X.A) (hb : Binds X.K fd ps ds) (hd : Vals dvs ds) (hx : Passes CX X E)
  (ht : eval (.Call (.Attribute o m apos) [] [] pos) X.env = (do
   let ov <- eval o X.env
   standAt apos.atName
   let (f, first) <- holding [ov] (getMethod ov m pl)
   callWith pos f first (backTo pos (starEach [] X.env)) (backToKw pos (keywordEach [] X.env))) := by rfl) :
  PE X (.Call (.Attribute o m apos) [] [] pos) (tMeth C m sp dvs E ta tNil) := by
 intro pins s σ H Q I h
 refine PySem.W.methodCall_KW (pl := pl) (thn (he pins s σ H _ I h) fun u s1 ⟨x, H1, I1, rx, a, dx, fs, ex, ea, l, q⟩ => ?_) ht
 subst ex
 obtain rfl : u = Value.ref a := rx
 refine getmeth_ok I1 ea c hm l ?_
 exact PySem.W.callWith_K0 (first := [.ref a]) I1.kIn hm.kp (run_fn (us := [.ref a]) (vs := [.ref a]) F hr hb hd hx I1 (.cons rfl .nil) q)
structure Mk (K : PySem.W.Frag) (C f : Addr) : Prop where
 makes : PySem.W.makesIn K C = true
 init : PySem.W.findIn K (.ref C) "__init__" = some (some (.ref f))
 fn : PySem.W.isFn K (.ref f) = true
 kp : PySem.W.keepIn K (.ref C) = true
theorem run_make {pins : List (Addr × Obj)} {σ : St} {H : Hp} {s : Shared} {Q : VK} {us : List Value} {vs : List V} (M : Mk X.K C f) (F : FnOk X.prog X.w X.K X.mg X.base CX k f fd ps sp) (hr : Room (k + 1) X.A) (hb : Binds X.K fd ps ds) (hd : Vals dvs ds)
  (hx : Passes CX X E) (I : Inv X pins σ H s) (r : Vals vs us)
  (h : ∀ x dx, H x = none -> H dx = none -> dx ≠ x -> sp (.ref x :: (vs ++ dvs)) (upd (upd H dx (.own x)) x (.ins C dx [])) (fun v H2 => v = .non /\ Q (.ref x) H2) E) :
  wpAny (model X.prog X.w) X.A (call (.ref C) us) (EP X pins σ Q) X.xe s := by
 have hq := h (s.heap.objs.size + 1) s.heap.objs.size (I.hok.fresh (Nat.le_succ _)) (I.hok.fresh (Nat.le_refl _)) (Nat.ne_of_lt (Nat.lt_succ_self _))
 have I2 := Inv.made (C := C) I
 have r2 : Vals (V.ref (s.heap.objs.size + 1) :: (vs ++ dvs)) (Value.ref (s.heap.objs.size + 1) :: (us ++ ds)) := .cons rfl (r.append hd)
 have hl : (Value.ref (s.heap.objs.size + 1) :: us ++ ds).length = ps.length := by
  have e := r2.length
  rw [F.len _ _ _ _ hq] at e
  exact e.symm
 refine wpAny_call (make_map (f := f) I.kIn M.makes M.init (beq_iff_eq.mp M.fn) (codeAny_mono (F.run _ X.stack _ _ ⟨Value.ref (s.heap.objs.size + 1) :: us, []⟩ (Value.ref (s.heap.objs.size + 1) :: (us ++ ds)) _ _ E (hr.make C us [])
  (I2.env0.make C us []) (hb _ (Value.ref (s.heap.objs.size + 1) :: us) I2.kIn hl) r2 hq) fun r s' hq' => ?_))
 cases r with
 | error e => exact hx pins σ _ _ e s' I2 hq'
 | ok fl =>
  cases fl with
  | ret u =>
   obtain ⟨v, H', I3, rv, ev, q3⟩ := I2.after hq'
   subst ev
   exact ⟨rv, ⟨V.ref (s.heap.objs.size + 1), H', I3, rfl, q3⟩⟩
  | next => exact False.elim hq'
  | brk => exact False.elim hq'
  | cont => exact False.elim hq'
theorem pe_make (M : Mk X.K C f) (F : FnOk X.prog X.w X.K X.mg X.base CX k f fd ps sp) (hr : Room (k + 1) X.A) (hg : Gl X x) (hm : X.mg x = some (.ref C)) (hb : Binds X.K fd ps ds) (hd : Vals dvs ds) (hx : Passes CX X E)
  (ha : PA X (e :: es) t) (hdb : (x == ("__debug__" : Str)) = false := by decide) (he : starEach (e :: es) X.env = (false, eval e X.env) :: starEach es X.env := by rfl) (hpl : (backTo pos (starEach es X.env)).any (·.1) = false := by rfl) :
  PE X (.Call (.Name x p) (e :: es) [] pos) (tMake C sp dvs E t) := by
 intro pins s σ H Q I h
 refine wpAny_Call_Name_kw (ld_glob I hg hm ?_ hdb)
 refine PySem.W.callWith_K (h₀ := X.base) I.ok.mod.kin M.kp (thn (ha pos pins s σ H _ I h) fun us s1 ⟨vs, H1, I1, r, q⟩ => ⟨I1.kIn, ?_⟩) he hpl
 exact run_make M F hr hb hd hx I1 r q
theorem pe_make0 (M : Mk X.K C f) (F : FnOk X.prog X.w X.K X.mg X.base CX k f fd ps sp) (hr : Room (k + 1) X.A) (hg : Gl X x) (hm : X.mg x = some (.ref C)) (hb : Binds X.K fd ps ds) (hd : Vals dvs ds) (hx : Passes CX X E)
  (hdb : (x == ("__debug__" : Str)) = false := by decide) : PE X (.Call (.Name x p) [] [] pos) (tMake C sp dvs E tNil) := by
 intro pins s σ H Q I h
 refine wpAny_Call_Name_kw (ld_glob I hg hm ?_ hdb)
 exact PySem.W.callWith_K0 I.kIn M.kp (run_make (us := []) M F hr hb hd hx I .nil h)
end
structure FnScope (N P : List Str) (sc : Scope) : Prop where
 kind : sc.kind = .function
 co : sc.isCoroutine = false
 gen : sc.isGenerator = false
 nd : N.Nodup
 pre : N.take P.length = P
 par : ∀ x ∈ P, sc.names.lookup x = some .local \/ sc.names.lookup x = some .cell
 nofree : ∀ y ∈ sc.names, y.2 ≠ .free
theorem bindL_out {kindOf : Str -> Option NameKind} {x : Str} : ∀ {binds : List (Str × Value)} {m : Str -> Option Value}, (∀ v, (x, v) ∉ binds) -> bindL kindOf binds m x = m x
 | [], _, _ => rfl
 | (n, v) :: r, m, h => by
  unfold bindL
  rw [bindL_out fun w hw => h w (List.mem_cons_of_mem _ hw)]
  split
  ·have : x ≠ n := by rintro rfl; exact h v List.mem_cons_self
   simp [this]
  ·rfl
theorem bindC_out {kindOf : Str -> Option NameKind} {x : Str} : ∀ {binds : List (Str × Value)} {m : Str -> Option Value}, (∀ v, (x, v) ∉ binds) -> bindC kindOf binds m x = m x
 | [], _, _ => rfl
 | (n, v) :: r, m, h => by
  unfold bindC
  rw [bindC_out fun w hw => h w (List.mem_cons_of_mem _ hw)]
  split
  ·rfl
  ·have : x ≠ n := by rintro rfl; exact h v List.mem_cons_self
   simp [this]
theorem bindL_get {kindOf : Str -> Option NameKind} {x : Str} {v : Value} : ∀ {P : List Str} {vs : List Value} {i : Nat} {m : Str -> Option Value}, P.Nodup -> P[i]? = some x -> vs[i]? = some v -> kindOf x = some .local ->
  bindL kindOf (P.zip vs) m x = some v
 | [], _, _, _, _, h, _, _ => by simp at h
 | _ :: _, [], _, _, _, _, h, _ => by simp at h
 | p :: P, w :: vs, 0, m, nd, h1, h2, hk => by
  simp at h1 h2; subst h1; subst h2
  show bindL kindOf ((p, w) :: P.zip vs) m p = _
  unfold bindL
  rw [bindL_out fun v hv => (List.nodup_cons.mp nd).1 (List.of_mem_zip hv).1, if_pos hk]
  simp
 | p :: P, w :: vs, i + 1, m, nd, h1, h2, hk => by
  show bindL kindOf ((p, w) :: P.zip vs) m x = _
  unfold bindL
  exact bindL_get (i := i) (List.nodup_cons.mp nd).2 (by simpa using h1) (by simpa using h2) hk
theorem bindC_get {kindOf : Str -> Option NameKind} {x : Str} {v : Value} : ∀ {P : List Str} {vs : List Value} {i : Nat} {m : Str -> Option Value}, P.Nodup -> P[i]? = some x -> vs[i]? = some v -> kindOf x ≠ some .local ->
  bindC kindOf (P.zip vs) m x = some v
 | [], _, _, _, _, h, _, _ => by simp at h
 | _ :: _, [], _, _, _, _, h, _ => by simp at h
 | p :: P, w :: vs, 0, m, nd, h1, h2, hk => by
  simp at h1 h2; subst h1; subst h2
  show bindC kindOf ((p, w) :: P.zip vs) m p = _
  unfold bindC
  rw [bindC_out fun v hv => (List.nodup_cons.mp nd).1 (List.of_mem_zip hv).1, if_neg hk]
  simp
 | p :: P, w :: vs, i + 1, m, nd, h1, h2, hk => by
  show bindC kindOf ((p, w) :: P.zip vs) m x = _
  unfold bindC
  exact bindC_get (i := i) (List.nodup_cons.mp nd).2 (by simpa using h1) (by simpa using h2) hk
def start (N : List Str) (vs : List V) : St := vs.map some ++ List.replicate (N.length - vs.length) none
def cxOf (CX : CXT) (P : Program) (w : World) (K : PySem.W.Frag) (mg : Str -> Option Value) (base : Heap) (N : List Str) (qual : Str) (scope : Scope) (f : Addr) (cd : Value) (A : Around) (outer : List Env) (s : Shared) (H : Hp) (E : XK) : Cx where
 prog := P
 w := w
 K := K
 mg := mg
 base := base
 A := A.deeper (envOfC qual scope s.heap.objs.size f cd)
 N := N
 s_0 := s
 H_0 := H
 env := envOfC qual scope s.heap.objs.size f cd
 outer := outer
 stack := envOfC qual scope s.heap.objs.size f cd :: outer
 ex := []
 calm := true
 fn := fun _ => true
 pn := []
 xe := fun e s' => wpAny (model P w) (A.deeper (envOfC qual scope s.heap.objs.size f cd)) (leaving (envOfC qual scope s.heap.objs.size f cd) e) (fun _ s'' => CX outer H s E e s'') (fun e' s'' => CX outer H s E e' s'') s'
theorem cell_has {sc : Scope} {n : Nat} {x : Str} (h : sc.names.lookup x = some .cell) : ∃ c, (cellsFrom n sc.names []).lookup x = some c := by
 have q := PySem.W.cellsFrom_some sc.names n [] (.inl h)
 exact Option.isSome_iff_exists.mp q
theorem inv_start {CX : CXT} {P : Program} {w : World} {K : PySem.W.Frag} {mg : Str -> Option Value} {base : Heap} {N ps : List Str} {qual : Str} {scope : Scope} {f : Addr} {cd : Value} {A : Around} {outer : List Env} {s s1 : Shared} {H : Hp} {E : XK} {us : List Value} {vs : List V}
  (S : FnScope N ps scope) (hd : A.handled = none) (e0 : Env0 P w K mg base A outer s H) (hl : vs.length = ps.length) (r : Vals vs us)
  (x : InCallC s s.heap.objs.size (bindL (envOfC qual scope s.heap.objs.size f cd).kindOf (ps.zip us) fun _ => none) (cellsFrom (s.heap.objs.size + 1) scope.names []) (bindC (envOfC qual scope s.heap.objs.size f cd).kindOf (ps.zip us) fun _ => none) s1) :
  Inv (cxOf CX P w K mg base N qual scope f cd A outer s H E) [] (start N vs) H s1 := by
 have hpl : ps.length <= N.length := by have := congrArg List.length S.pre; rw [List.length_take] at this; omega
 obtain ⟨h1, tk, rfl, hk⟩ := x.done
 have noA : ∀ b : Addr, b ∉ (cxOf CX P w K mg base N qual scope f cd A outer s H E).ex := fun b z => absurd (show b ∈ ([] : List Addr) from z) (by simp)
 refine ⟨⟨e0.mod, S.kind, rfl, rfl, Nat.le_refl _, fun y z c h1 h2 => ?_, fun y hy => ?_, fun y c _ h => ?_, fun _ => hd, Around.frames_deeper e0.frames, .inr ⟨rfl, rfl⟩, fun b z => absurd z (noA b), e0.bs, e0.bsz, fun b _ _ => noA b, fun b z => absurd z (noA b), e0.funs, e0.frf⟩,
  rfl, e0.bare, Un.kept hk, ⟨_, x.toInCall.ns, fun i y v h1 h2 h3 => ?_⟩, fun y c h => ⟨_, x.cell y c h⟩, e0.hok.fresh (Nat.le_refl _), fun y c h => ?_, fun p hp => absurd (show p ∈ ([] : List (Addr × Obj)) from hp) (by simp), e0.hok.kept hk, ?_⟩
 ·exact name_of_addr x.apart (PySem.mem_of_lookup h1) (PySem.mem_of_lookup h2)
 ·have hy : scope.names.lookup y = some .cell \/ scope.names.lookup y = some .free := hy
  rcases hy with hy | hy
  ·exact cell_has hy
  ·exact absurd rfl (S.nofree _ (PySem.mem_of_lookup hy))
 ·exact Nat.le_of_lt (x.above y c (PySem.mem_of_lookup h))
 ·have hi : i < vs.length := by
   unfold start at h2
   by_cases hi : i < vs.length
   ·exact hi
   ·rw [List.getElem?_append_right (by simpa using hi)] at h2
    rw [List.getElem?_replicate] at h2
    split at h2 <;> cases h2
  have ha : vs[i]? = some v := by
   unfold start at h2
   rw [List.getElem?_append_left (by simpa using hi), List.getElem?_map] at h2
   cases e : vs[i]? with
   | none => rw [e] at h2; cases h2
   | some a => rw [e] at h2; cases h2; rfl
  obtain ⟨u, hu, rv⟩ := r.get ha
  have hp : ps[i]? = some y := by
   rw [<- S.pre, List.getElem?_take_of_lt (by omega)]; exact h1
  have ndP : ps.Nodup := by rw [<- S.pre]; exact S.nd.sublist (List.take_sublist _ _)
  refine ⟨u, rv, ?_⟩
  rcases S.par y (List.mem_of_getElem? hp) with k | k
  ·exact .inl ⟨k, bindL_get ndP hp hu k⟩
  ·obtain ⟨c, e⟩ := cell_has (n := s.heap.objs.size + 1) k
   refine .inr ⟨.inl k, c, e, ?_⟩
   have q := x.cell y c e
   rw [bindC_get ndP hp hu (by show scope.names.lookup y ≠ _; rw [k]; decide)] at q
   exact q
 ·exact e0.hok.fresh (Nat.le_of_lt (x.above y c (PySem.mem_of_lookup h)))
 ·unfold start
  show _ = N.length
  rw [List.length_append, List.length_map, List.length_replicate]
  omega
theorem fn_of {CX : CXT} {P : Program} {w : World} {K : PySem.W.Frag} {mg : Str -> Option Value} {base : Heap} {k : Nat} {f : Addr} {name qual : Str} {params : Arguments} {body : List Stmt} {scope : Scope} {dV kV doc pm cdv ct oc : Value} {an od : Option Addr}
  {osl : Array (Option Value)} {N ps : List Str} {sp : Sp} (lk : K.lookup f = some ⟨oc, od, .func (PySem.W.fnOf name qual params body scope dV kV doc pm an cdv ct), osl⟩) (hcd : PySem.W.codeIn K cdv qual = true) (S : FnScope N ps scope)
  (len : ∀ vs H Q E, sp vs H Q E -> vs.length = ps.length)
  (hbody : ∀ (A : Around) (outer : List Env) (s : Shared) (H : Hp) (vs : List V) (Q : VK) (E : XK), Room k (A.deeper (envOfC qual scope s.heap.objs.size f cdv)) -> sp vs H Q E ->
   ∃ t, PSs (cxOf CX P w K mg base N qual scope f cdv A outer s H E) body t /\ t { nx := fun _ H' => Q .non H', rt := Q } (start N vs) H) :
  FnOk P w K mg base CX (k + 1) f (PySem.W.fnOf name qual params body scope dV kV doc pm an cdv ct) ps sp := by
 refine ⟨len, fun A outer s H args us vs Q E hr e0 hb r hsp => ?_⟩
 have hl := len _ _ _ _ hsp
 have KX : K.In s.heap := e0.mod.kin.keeps fun b o e => (e0.bs b o e).1
 have lim : s.heap.NoLimit := e0.mod.nolimit.keeps fun b o e => (e0.bs b o e).1
 have hkind : ∀ y ∈ ps.zip us, scope.names.lookup y.1 = some .local \/ (scope.names.lookup y.1 = some .cell /\ ((cellsFrom (s.heap.objs.size + 1) scope.names []).lookup y.1).isSome = true) := fun ⟨n, v⟩ hy => by
  rcases S.par n (List.of_mem_zip hy).1 with q | q
  ·exact .inl q
  ·exact .inr ⟨q, PySem.W.cellsFrom_some _ _ _ (.inl q)⟩
 refine codeAny_call_function hr.depth (KX _ _ lk) rfl S.co S.gen rfl (PySem.W.codeRec_of KX hcd) (hb _ _ _ _ ?_)
 refine wpAny_newFunctionEnv_cells S.kind hkind fun env he s1 x => ?_
 subst he
 refine ⟨lim.keeps x.toInCall.keep, codeAny_func ?_⟩
 obtain ⟨t, ht, hq⟩ := hbody A outer s H vs Q E (hr.deeper _) hsp
 have I : Inv (cxOf CX P w K mg base N qual scope f cdv A outer s H E) [] (start N vs) H s1 := inv_start S hr.hd e0 hl r x
 refine wpAny_mono (ht [] s1 (start N vs) H _ I hq) (fun fl s' hs => ?_) fun e s' hs => hs
 have fin : ∀ {σ' : St} {H' : Hp} {v : V} {u : Value}, Inv (cxOf CX P w K mg base N qual scope f cdv A outer s H E) [] σ' H' s' -> RelV v u -> Q v H' -> CE outer P w H s Q u s' :=
  fun {σ' H' v u} J rv q => ⟨v, H', J.os, J.bare, J.base, J.hok, rv, q⟩
 cases fl with
 | ret u =>
  obtain ⟨v, σ', H', J, rv, q⟩ := hs
  exact fin J rv q
 | next =>
  obtain ⟨σ', H', J, q⟩ := hs
  exact fin (v := V.non) (u := Value.none) J rfl q
 | brk =>
  obtain ⟨_, _, _, q⟩ := hs
  exact False.elim q
 | cont =>
  obtain ⟨_, _, _, q⟩ := hs
  exact False.elim q
end L2
namespace L2
open PySem PySem.Spec PyProof.Rows
section
variable {X : Cx} {x : Str} {p pos : Pos} {e : Expr} {es : List Expr} {t : TA} {id T : String} {r : List V -> Hp -> VK -> Prop}
def tCB (r : List V -> Hp -> VK -> Prop) (t : TA) : TE := fun σ H Q => t σ H fun vs H1 => r vs H1 Q
theorem pe_callB (hc : CallR X (.builtin id) r) (hg : Gl X x) (hm : X.mg x = none) (hv : bootBuiltins x = some (.builtin id)) (ha : PA X (e :: es) t) (hn : x ≠ "__name__" := by decide) (hdb : (x == ("__debug__" : Str)) = false := by decide)
  (he : starEach (e :: es) X.env = (false, eval e X.env) :: starEach es X.env := by rfl) (hpl : (backTo pos (starEach es X.env)).any (·.1) = false := by rfl) : PE X (.Call (.Name x p) (e :: es) [] pos) (tCB r t) := by
 intro pins s σ H Q I h
 refine wpAny_Call_Name_kw (ld_blt I hg hm hv ?_ hn hdb)
 exact PyProof.Rows.callWith_builtin1 (thn (ha pos pins s σ H _ I h) fun us s1 ⟨vs, H1, I1, r1, q1⟩ => hc pins s1 σ H1 vs us Q I1 r1 q1) he hpl
theorem pe_callTy (hc : CallR X (.type T) r) (hg : Gl X x) (hm : X.mg x = none) (hv : bootBuiltins x = some (.type T)) (ha : PA X (e :: es) t) (hn : x ≠ "__name__" := by decide) (hdb : (x == ("__debug__" : Str)) = false := by decide)
  (he : starEach (e :: es) X.env = (false, eval e X.env) :: starEach es X.env := by rfl) (hpl : (backTo pos (starEach es X.env)).any (·.1) = false := by rfl) : PE X (.Call (.Name x p) (e :: es) [] pos) (tCB r t) := by
 intro pins s σ H Q I h
 refine wpAny_Call_Name_kw (ld_blt I hg hm hv ?_ hn hdb)
 exact PyProof.Rows.callWith_type1 (thn (ha pos pins s σ H _ I h) fun us s1 ⟨vs, H1, I1, r1, q1⟩ => hc pins s1 σ H1 vs us Q I1 r1 q1) he hpl
end
end L2
namespace HT
open PySem PyProof.Rows
section
variable {prog : Program} {w : World} {A : Around} {E : Value -> Shared -> Prop} {s : Shared}
def sIx (n d : Nat) : Option Int -> Nat
 | none => d
 | some v => if v < 0 then (v + (n : Int)).toNat else min v.toNat n
theorem sIx_nat (n d k : Nat) : sIx n d (some (k : Int)) = min k n := by
 show (if (k : Int) < 0 then ((k : Int) + (n : Int)).toNat else min (k : Int).toNat n) = min k n
 rw [if_neg (by omega), Int.toNat_natCast]
end
end HT
namespace L2
open PySem PySem.Spec PyProof.Rows
abbrev TO := St -> Hp -> (Option Int -> Hp -> Prop) -> Prop
def PO (X : Cx) (e : Option Expr) (t : TO) : Prop :=
 ∀ (pins : List (Addr × Obj)) (s : Shared) (σ : St) (H : Hp) (Q : Option Int -> Hp -> Prop), Inv X pins σ H s -> t σ H Q ->
  wpAny (model X.prog X.w) X.A (evalPart e X.env) (fun u s' => ∃ o H', Inv X pins σ H' s' /\ IsPart u o /\ Q o H') X.xe s
def tNoPart : TO := fun _ H Q => Q none H
def tPart (t : TE) : TO := fun σ H Q => t σ H fun x H1 => ∃ i, x = .int i /\ Q (some i) H1
section
variable {X : Cx} {e : Expr} {te : TE} {lo hi : Option Expr} {tl th : TO} {pos p2 : Pos}
theorem po_none : PO X none tNoPart := by
 intro pins s σ H Q I h
 rw [evalPart_none]
 exact wpAny_pure ⟨none, H, I, .none, h⟩
theorem po_some (h : PE X e te) : PO X (some e) (tPart te) := by
 intro pins s σ H Q I hw
 rw [evalPart_some]
 refine thn (h pins s σ H _ I hw) fun u s1 ⟨x, H1, I1, r1, q1⟩ => ?_
 obtain ⟨i, rfl, q⟩ := q1
 obtain ⟨t, rfl⟩ := r1
 exact ⟨some i, H1, I1, .int i t, q⟩
def SlR (X : Cx) (r : V -> Option Int -> Option Int -> Hp -> VK -> Prop) : Prop :=
 ∀ (pins : List (Addr × Obj)) (s : Shared) (σ : St) (H : Hp) (x : V) (v vl vu : Value) (lo hi : Option Int) (sl : Addr) (Q : VK), Inv X pins σ H s -> RelV x v -> s.heap.IsSliceOf sl vl vu .none -> IsPart vl lo -> IsPart vu hi -> r x lo hi H Q ->
  ∃ T id, typeLookup (.type T) "__getitem__" = pure (some (.builtin id)) /\ s.TypeIs v T /\ wpAny (model X.prog X.w) X.A (getItem v (.ref sl)) (EP X pins σ Q) X.xe s
def tSl (r : V -> Option Int -> Option Int -> Hp -> VK -> Prop) (te : TE) (tl th : TO) : TE := fun σ H Q => te σ H fun x H1 => tl σ H1 fun l H2 => th σ H2 fun u H3 => r x l u H3 Q
theorem pe_slice {r : V -> Option Int -> Option Int -> Hp -> VK -> Prop} (hr : SlR X r) (he : PE X e te) (hl : PO X lo tl) (hu : PO X hi th) : PE X (.Subscript e (.Slice lo hi none p2) pos) (tSl r te tl th) := by
 intro pins s σ H Q I h
 refine Subscript_ (thn (he pins s σ H _ I h) fun v s1 ⟨x, H1, I1, r1, q1⟩ => ?_)
 refine wpAny_Slice (thn (hl pins s1 σ H1 _ I1 q1) fun vl s2 ⟨l, H2, I2, pl, q2⟩ => thn (hu pins s2 σ H2 _ I2 q2) fun vu s3 ⟨u, H3, I3, pu, q3⟩ => ?_)
 rw [evalPart_none]
 refine wpAny_pure ?_
 have I4 : Inv X pins σ H3 { s3 with heap := s3.heap.push { cls := .type "slice", data := .fields #[vl, vu, .none] } } := I3.kept (t' := s3.toks) fun b ob q => Heap.get?_push_of_some _ q
 obtain ⟨T, id, hT, ht, hg⟩ := hr pins { s3 with heap := s3.heap.push { cls := .type "slice", data := .fields #[vl, vu, .none] } } σ H3 x v vl vu l u s3.heap.objs.size Q I4 r1 (Heap.IsSliceOf.new ..) pl pu q3
 show wpAny (model X.prog X.w) X.A (subscriptTail e (.Slice lo hi none p2) v (.ref s3.heap.objs.size)) (EP X pins σ Q) X.xe { s3 with heap := s3.heap.push { cls := .type "slice", data := .fields #[vl, vu, .none] } }
 exact tail_any (ops := [.ref s3.heap.objs.size, v]) ht hT hg (by with_unfolding_all rfl)
def cutV (xs : List V) (lo hi : Option Int) : List V := (xs.drop (HT.sIx xs.length 0 lo)).take (HT.sIx xs.length xs.length hi - HT.sIx xs.length 0 lo)
theorem cutV_length (xs : List V) (lo hi : Option Int) : (cutV xs lo hi).length <= xs.length := by
 unfold cutV
 rw [List.length_take, List.length_drop]
 omega
end
end L2
namespace L2
open PySem PySem.Spec PyProof.Rows
def ixN (n : Nat) (i : Int) : Option Nat := if 0 <= i then (if i < n then some i.toNat else none) else if -(n : Int) <= i then some (i + n).toNat else none
def atI {α : Type} (xs : List α) (i : Int) : Option α := (ixN xs.length i).bind fun j => xs[j]?
theorem ixN_seq {n : Nat} {i : Int} {j : Nat} (h : ixN n i = some j) : seqIndex? i n = some j /\ j < n /\ -(n : Int) <= i /\ i < n := by
 unfold ixN at h
 by_cases h0 : 0 <= i
 ·rw [if_pos h0] at h
  by_cases h1 : i < n
  ·rw [if_pos h1] at h
   have e : i.toNat = j := Option.some.inj h
   exact ⟨by rw [seqIndex_of h0 h1, e], by omega, by omega, h1⟩
  ·rw [if_neg h1] at h; cases h
 ·rw [if_neg h0] at h
  by_cases h1 : -(n : Int) <= i
  ·rw [if_pos h1] at h
   have e : (i + n).toNat = j := Option.some.inj h
   exact ⟨by rw [seqIndex_neg (by omega) h1, e], by omega, h1, by omega⟩
  ·rw [if_neg h1] at h; cases h
theorem atI_get {α : Type} {xs : List α} {i : Int} {v : α} (h : atI xs i = some v) : ∃ j, seqIndex? i xs.length = some j /\ xs[j]? = some v /\ j < xs.length /\ -(xs.length : Int) <= i /\ i < xs.length := by
 unfold atI at h
 cases e : ixN xs.length i with
 | none => rw [e] at h; cases h
 | some j =>
  rw [e] at h
  obtain ⟨h1, h2, h3, h4⟩ := ixN_seq e
  exact ⟨j, h1, h, h2, h3, h4⟩
theorem atI_nat {α : Type} {xs : List α} {j : Nat} {v : α} (h : xs[j]? = some v) : atI xs (j : Int) = some v := by
 have hj : j < xs.length := (List.getElem?_eq_some_iff.mp h).1
 have e : ixN xs.length (j : Int) = some j := by
  unfold ixN
  rw [if_pos (by omega), if_pos (by omega)]; simp
 unfold atI; rw [e]; exact h
def PlainIx (b : Expr) : Prop := ∀ o i, subscripted b false o i = operate [o, i] (getItem o i)
def IxR (X : Cx) (r : R2) : Prop :=
 ∀ (value slice : Expr) (pins : List (Addr × Obj)) (s : Shared) (σ : St) (H : Hp) (x y : V) (v u : Value) (Q : VK), Inv X pins σ H s -> RelV x v -> RelV y u -> r x y H Q ->
  subscripted slice false v u = operate [v, u] (getItem v u) -> wpAny (model X.prog X.w) X.A (subscriptTail value slice v u) (EP X pins σ Q) X.xe s
def MtR (X : Cx) (id : String) (r : V -> List V -> Hp -> VK -> Prop) : Prop :=
 ∀ (pins : List (Addr × Obj)) (s : Shared) (σ : St) (H : Hp) (x : V) (xs : List V) (v : Value) (us : List Value) (Q : VK), Inv X pins σ H s -> RelV x v -> Vals xs us -> r x xs H Q ->
  wpAny (model X.prog X.w) X.A (call (.builtin id) (v :: us)) (EP X pins σ Q) X.xe s
section
variable {X : Cx} {a b : Expr} {ta tb : TE} {pos : Pos}
theorem IxR.or {r r' : R2} (h : IxR X r) (h' : IxR X r') : IxR X (fun x y H Q => r x y H Q \/ r' x y H Q) := by
 intro value slice pins s σ H x y v u Q I rx ry q hs
 rcases q with q | q
 ·exact h value slice pins s σ H x y v u Q I rx ry q hs
 ·exact h' value slice pins s σ H x y v u Q I rx ry q hs
theorem pe_ix {r : R2} (hr : IxR X r) (ha : PE X a ta) (hb : PE X b tb) (hs : PlainIx b) : PE X (.Subscript a b pos) (tOp r ta tb) := by
 intro pins s σ H Q I h
 exact Subscript_ (binT ha hb I h fun v u s2 x y H2 I2 rx ry q => hr a b pins s2 σ H2 x y v u Q I2 rx ry q (hs _ _))
def rIxL (K : PySem.W.Frag) : R2 := fun x y H Q => ∃ p xs i v, x = .ref p /\ y = .int i /\ SqL K H p xs /\ atI xs i = some v /\ Q v H
def rIxT (K : PySem.W.Frag) : R2 := fun x y H Q => ∃ p xs i v, x = .ref p /\ y = .int i /\ SqT K H p xs /\ atI xs i = some v /\ Q v H
def rIxS : R2 := fun x y H Q => ∃ z i c, x = .str z /\ y = .int i /\ z.length <= sizeLine /\ atI z.cps.toList i = some c /\ Q (.str ⟨#[c]⟩) H
theorem ix_list : IxR X (rIxL X.K) := by
 intro value slice pins s σ H x y v u Q I rx ry h hs
 obtain ⟨p, xs, i, z, rfl, rfl, hq, he, q⟩ := h
 cases rx
 obtain ⟨t, rfl⟩ := ry
 obtain ⟨its, r, pl, hz⟩ := I.list hq
 obtain ⟨j, h1, h2, h3, h4, h5⟩ := atI_get he
 obtain ⟨w, ew, rw'⟩ := r.get h2
 have hl := r.length
 have hn := line63
 have fin : EP X pins σ Q w s := ⟨z, H, I, rw', q⟩
 by_cases h0 : 0 <= i
 ·have hj : i.toNat = j := by
   rw [seqIndex_of h0 h5] at h1
   exact Option.some.inj h1
  exact item_listR pl.isList h0 (by omega) (by rw [hj]; simpa using ew) fin hs
 ·have hj : (i + (its.toArray.size : Int)).toNat = j := by
   rw [seqIndex_neg (by omega) h4] at h1
   rw [List.size_toArray, <- hl]
   exact Option.some.inj h1
  exact subscriptTail_builtinR (x := w) pl.isList.typeIs slot_list_getitem.lookup
   (wpAny_getItem_list_neg (Q := fun r s' => r = w /\ EP X pins σ Q r s') pl.isList (by omega) (by rw [List.size_toArray] <;> omega) (by omega) (by rw [hj]; simpa using ew) ⟨rfl, fin⟩) hs
theorem ix_tup : IxR X (rIxT X.K) := by
 intro value slice pins s σ H x y v u Q I rx ry h hs
 obtain ⟨p, xs, i, z, rfl, rfl, hq, he, q⟩ := h
 cases rx
 obtain ⟨t, rfl⟩ := ry
 obtain ⟨its, r, pl, hz⟩ := I.tuple hq
 obtain ⟨j, h1, h2, h3, h4, h5⟩ := atI_get he
 obtain ⟨w, ew, rw'⟩ := r.get h2
 have hl := r.length
 have hn := line63
 have fin : EP X pins σ Q w s := ⟨z, H, I, rw', q⟩
 exact subscriptTail_builtinR (x := w) pl.typeIs slot_tuple_getitem.lookup
  (getItem_tuple (j := j) (Q := fun r s' => r = w /\ EP X pins σ Q r s') pl (by omega) (by omega) (by rw [List.size_toArray, <- hl]; exact h1) (by simpa using ew) ⟨rfl, fin⟩) hs
theorem ix_str : IxR X rIxS := by
 intro value slice pins s σ H x y v u Q I rx ry h hs
 obtain ⟨z, i, c, rfl, rfl, hz, he, q⟩ := h
 obtain ⟨t, rfl⟩ := rx
 obtain ⟨t', rfl⟩ := ry
 obtain ⟨j, h1, h2, h3, h4, h5⟩ := atI_get he
 have hl : z.cps.toList.length = z.length := by simp [Str.length]
 rw [hl] at h1 h4 h5
 have hn := line63
 exact tail_any (typeIs_str s z t) slot_str_getitem.lookup (getItem_str (c := c) (by
  have e1 : decide (i < -(2 ^ 63 : Int)) = false := decide_eq_false (by omega)
  have e2 : decide (i ≥ 2 ^ 63) = false := decide_eq_false (by omega)
  rw [e1, e2, Bool.or_false]) (by rw [h1]; simpa using h2) ⟨.str ⟨#[c]⟩, H, I.tok _, ⟨_, rfl⟩, q⟩) hs
def rIx (K : PySem.W.Frag) : R2 := fun x y H Q => rIxL K x y H Q \/ rIxT K x y H Q \/ rIxS x y H Q
theorem ix_seq : IxR X (rIx X.K) := ix_list.or (ix_tup.or ix_str)
theorem slice_bounds (lo hi : Option Int) (n : Nat) : (sliceBounds lo hi none n).1 = ((HT.sIx n 0 lo : Nat) : Int) /\ (sliceBounds lo hi none n).2.1 = ((HT.sIx n n hi : Nat) : Int) /\ (sliceBounds lo hi none n).2.2 = 1 := by
 refine ⟨?_, ?_, rfl⟩
 ·cases lo with
  | none => simp [sliceBounds, HT.sIx]
  | some i =>
   simp only [sliceBounds, HT.sIx, Option.getD_none, show (1 : Int) > 0 by decide, if_true]
   by_cases h : i < 0
   ·simp only [h, if_true] <;> omega
   ·simp only [h, if_false] <;> omega
 ·cases hi with
  | none => simp [sliceBounds, HT.sIx]
  | some i =>
   simp only [sliceBounds, HT.sIx, Option.getD_none, show (1 : Int) > 0 by decide, if_true]
   by_cases h : i < 0
   ·simp only [h, if_true] <;> omega
   ·simp only [h, if_false] <;> omega
theorem slicePick_cut (its : List Value) (lo hi : Option Int) : slicePick its.toArray lo hi none = ((its.drop (HT.sIx its.length 0 lo)).take (HT.sIx its.length its.length hi - HT.sIx its.length 0 lo)).toArray := by
 obtain ⟨h1, h2, h3⟩ := slice_bounds lo hi its.toArray.size
 unfold slicePick
 rw [h1, h2, h3]
 simp only [sliceRange_one, pick_run, List.size_toArray] <;> rfl
def rSlL (K : PySem.W.Frag) : V -> Option Int -> Option Int -> Hp -> VK -> Prop := fun x lo hi H Q => ∃ a xs, x = .ref a /\ SqL K H a xs /\ ∀ p, H p = none -> Q (.ref p) (upd H p (.lst (cutV xs lo hi)))
theorem sl_list : SlR X (rSlL X.K) := by
 intro pins s σ H x v vl vu lo hi sl Q I rx hs pl pu h
 obtain ⟨a, xs, rfl, hx, q⟩ := h
 cases rx
 obtain ⟨its, r, ht, hz⟩ := I.list hx
 have hlen := r.length
 refine ⟨"list", _, slot_list_getitem.lookup, ht.isList.typeIs, ?_⟩
 refine wpAny_getItem_list_slice ht.isList hs pl pu .none (by simp) ?_ (by rw [List.size_toArray] <;> omega)
 rw [slicePick_cut, <- hlen]
 refine ⟨.ref s.heap.objs.size, _, I.laid (t' := s.toks) (o := .lst (cutV xs lo hi)) (fun b ob q => Heap.get?_push_of_some _ q) (Nat.le_refl _) ?_, rfl, q _ (I.hok.fresh (Nat.le_refl _))⟩
 exact ⟨Nat.le_trans (cutV_length xs lo hi) hz, _, 0, (r.drop (HT.sIx xs.length 0 lo)).take (HT.sIx xs.length xs.length hi - HT.sIx xs.length 0 lo), Heap.get?_push_size _ rfl⟩
theorem call_len_seq : CallR X (.builtin "len") (fun xs H Q => ∃ p ys, xs = [.ref p] /\ (SqL X.K H p ys \/ SqT X.K H p ys) /\ Q (.int ys.length) H) := by
 intro pins s σ H xs us Q I r h
 obtain ⟨p, ys, rfl, hq, q⟩ := h
 obtain ⟨u, rfl, rx⟩ := vals1 r
 cases rx
 have hn := line63
 rcases hq with hq | hq
 ·obtain ⟨its, r', pl, hz⟩ := I.list hq
  have hlen := r'.length
  exact Calls.call_len_list pl.isList (by simp only [List.size_toArray] <;> omega) ⟨.int ys.length, H, I.tok _, ⟨s.toks + 1, by rw [List.size_toArray, hlen]⟩, q⟩
 ·obtain ⟨its, r', pl, hz⟩ := I.tuple hq
  have hlen := r'.length
  exact len_tuple pl (by simp only [List.size_toArray] <;> omega) ⟨.int ys.length, H, I.tok _, ⟨s.toks + 1, by rw [List.size_toArray, hlen]⟩, q⟩
theorem call_list_of : CallR X (.type "list") (fun xs H Q => ∃ p ys, xs = [.ref p] /\ (SqL X.K H p ys \/ SqT X.K H p ys) /\ ∀ l, H l = none -> Q (.ref l) (upd H l (.lst ys))) := by
 intro pins s σ H xs us Q I r h
 obtain ⟨p, ys, rfl, hq, q⟩ := h
 obtain ⟨u, rfl, rx⟩ := vals1 r
 cases rx
 have fin : ∀ (its : List Value), Vals ys its -> ys.length <= sizeLine -> ∀ (h' : Heap) (c' : Nat), (∀ b o', s.heap.get? b = some o' -> h'.get? b = some o') ->
   h'.get? s.heap.objs.size = some { cls := .type "list", dict := none, data := .seq its.toArray c', slots := #[] } -> EP X pins σ Q (.ref s.heap.objs.size) { s with heap := h' } := fun its r' hz h' c' kp e =>
  ⟨.ref s.heap.objs.size, _, I.laid (t' := s.toks) kp (Nat.le_refl _) (show ObjOk X.prog X.w _ h' _ (.lst ys) from ⟨hz, its, c', r', e⟩), rfl, q _ (I.hok.fresh (Nat.le_refl _))⟩
 rcases hq with hq | hq
 ·obtain ⟨its, r', pl, hz⟩ := I.list hq
  have hlen := r'.length
  obtain ⟨o, ho, hc, n, hd⟩ := pl.isList
  exact call_list_seq p (.inl rfl) ho hc hd (fun h' c' kp e => fin its r' hz h' c' kp e) (by simp only [List.size_toArray] <;> omega)
 ·obtain ⟨its, r', pl, hz⟩ := I.tuple hq
  have hlen := r'.length
  obtain ⟨o, ho, hc, n, hd⟩ := pl
  exact call_list_seq p (.inr rfl) ho hc hd (fun h' c' kp e => fin its r' hz h' c' kp e) (by simp only [List.size_toArray] <;> omega)
theorem call_tuple_of : CallR X (.type "tuple") (fun xs H Q => ∃ p ys, xs = [.ref p] /\ ((SqL X.K H p ys /\ ∀ l, H l = none -> Q (.ref l) (upd H l (.tup ys))) \/ (SqT X.K H p ys /\ Q (.ref p) H))) := by
 intro pins s σ H xs us Q I r h
 obtain ⟨p, ys, rfl, h⟩ := h
 obtain ⟨u, rfl, rx⟩ := vals1 r
 cases rx
 rcases h with ⟨hq, q⟩ | ⟨hq, q⟩
 ·obtain ⟨its, r', pl, hz⟩ := I.list hq
  have hlen := r'.length
  refine call_tuple_list pl.isList (fun h' kp => ?_) (by simp only [List.size_toArray] <;> omega)
  have I1 : Inv X pins σ H { s with heap := h' } := I.kept (t' := s.toks) kp
  have I2 : Inv X pins σ (upd H h'.objs.size (.tup ys)) { s with heap := h'.push { cls := .type "tuple", data := .seq its.toArray } } :=
   I1.laid (t' := s.toks) (fun b o e => Heap.get?_push_of_some _ e) (Nat.le_refl _) (show ObjOk X.prog X.w _ _ _ (.tup ys) from ⟨hz, its, r', _, Heap.get?_push_size _ rfl, rfl, _, rfl, rfl⟩)
  exact ⟨.ref h'.objs.size, _, I2, rfl, q _ (I1.hok.fresh (Nat.le_refl _))⟩
 ·obtain ⟨its, r', pl, hz⟩ := I.tuple hq
  exact call_tuple_same pl ⟨.ref p, H, I, rfl, q⟩
def tyV (K : PySem.W.Frag) (T : String) (x : V) (H : Hp) : Prop := match x with
 | .str _ => T = "str"
 | .int _ => T = "int"
 | .ref p => (T = "list" /\ ∃ xs, SqL K H p xs) \/ (T = "tuple" /\ ((∃ o, K.lookup p = some o /\ o.cls = .type "tuple" /\ o.dict = none) \/ ∃ xs, H p = some (.tup xs))) \/
   (T = "dict" /\ ((∃ kvs, H p = some (.dK kvs)) \/ ∃ kvs, H p = some (.dT kvs))) \/ (T = "set" /\ ∃ S n, H p = some (.set S n))
 | _ => False
theorem tyV_is {pins : List (Addr × Obj)} {σ : St} {H : Hp} {s : Shared} {T : String} {x : V} {v : Value} (I : Inv X pins σ H s) (r : RelV x v) (ty : tyV X.K T x H) :
  s.TypeIs v T /\ ∀ a, v = .ref a -> ∃ ob, s.heap.get? a = some ob /\ ob.dict = none := by
 cases x with
 | str z =>
  obtain ⟨t, rfl⟩ := r
  cases (show T = "str" from ty)
  exact ⟨typeIs_str s z t, fun _ e => nomatch e⟩
 | int i =>
  obtain ⟨t, rfl⟩ := r
  cases (show T = "int" from ty)
  exact ⟨typeIs_int s i t, fun _ e => nomatch e⟩
 | ref p =>
  cases r
  rcases ty with ⟨rfl, xs, hq⟩ | ⟨rfl, (⟨o, hk, hc, hd⟩ | ⟨xs, hk⟩)⟩ | ⟨rfl, hk⟩ | ⟨rfl, S, n, hk⟩
  ·obtain ⟨its, _, pl, _⟩ := I.list hq
   refine ⟨pl.isList.typeIs, fun a e => ?_⟩
   cases e
   obtain ⟨o, n, e, c, hd, _⟩ := pl
   exact ⟨o, e, hd⟩
  ·refine ⟨⟨o, I.kIn p o hk, hc⟩, fun a e => ?_⟩
   cases e
   exact ⟨o, I.kIn _ o hk, hd⟩
  ·obtain ⟨_, its, _, o, e, c, n, _, dd⟩ := (show ObjOk X.prog X.w H s.heap p (.tup xs) from I.hok p _ hk)
   refine ⟨⟨o, e, c⟩, fun a e2 => ?_⟩
   cases e2
   exact ⟨o, e, dd⟩
  ·have z : ∃ o, s.heap.get? p = some o /\ o.ExactDict := by
    rcases hk with ⟨kvs, hk⟩ | ⟨kvs, hk⟩
    ·obtain ⟨_, _, _, _, o, _, _, e, ex, _⟩ := I.hok p _ hk
     exact ⟨o, e, ex⟩
    ·obtain ⟨_, _, _, _, o, _, _, e, ex, _⟩ := I.hok p _ hk
     exact ⟨o, e, ex⟩
   obtain ⟨o, e, ex⟩ := z
   refine ⟨⟨o, e, ex.1⟩, fun a e2 => ?_⟩
   cases e2
   exact ⟨o, e, ex.2.1⟩
  ·obtain ⟨o, _, _, _, e, ex, _⟩ := I.hok p _ hk
   refine ⟨⟨o, e, ex.1⟩, fun a e2 => ?_⟩
   cases e2
   exact ⟨o, e, ex.2.1⟩
 | _ => exact False.elim ty
def tBM0 (K : PySem.W.Frag) (T : String) (r : V -> List V -> Hp -> VK -> Prop) (to : TE) : TE := fun σ H Q => to σ H fun x H1 => tyV K T x H1 /\ r x [] H1 Q
def tBM (K : PySem.W.Frag) (T : String) (r : V -> List V -> Hp -> VK -> Prop) (to : TE) (t : TA) : TE := fun σ H Q => to σ H fun x H1 => tyV K T x H1 /\ t σ H1 fun xs H2 => r x xs H2 Q
variable {o e : Expr} {es : List Expr} {to : TE} {t : TA} {name : Str} {apos cpos : Pos} {T id : String} {r : V -> List V -> Hp -> VK -> Prop}
theorem pe_bm0 (pa : PlainAttrs T) (slot : Slot T name id) (hty : typeOf (.builtin id) = pure (.type "method_descriptor")) (hm : MtR X id r) (ho : PE X o to)
  (hbase : attributeBase o name X.env (eval o X.env) = eval o X.env := by rfl) (hline : (apos.endLine == cpos.line) = true := by rfl) : PE X (.Call (.Attribute o name apos) [] [] cpos) (tBM0 X.K T r to) := by
 intro pins s σ H Q I h
 refine wpAny_Call_method0_late hbase hline (thn (ho pins s σ H _ I h) fun v s1 ⟨x, H1, I1, r1, ty, q1⟩ => ?_)
 obtain ⟨h1, h2⟩ := tyV_is I1 r1 ty
 exact ⟨T, id, pa, slot, hty, h1, h2, Calls.callWith_builtin rfl (PySem.evalArgs_none (hm pins s1 σ H1 x [] v [] Q I1 r1 .nil q1))⟩
theorem pe_bm (pa : PlainAttrs T) (slot : Slot T name id) (hty : typeOf (.builtin id) = pure (.type "method_descriptor")) (hm : MtR X id r) (ho : PE X o to) (ha : PA X (e :: es) t)
  (hbase : attributeBase o name X.env (eval o X.env) = eval o X.env := by rfl)
  (hfew : ((backTo cpos (starEach (e :: es) X.env)).all (fun x => !x.1) && (backToKw cpos (keywordEach [] X.env)).all (fun x => x.1.isSome)
   && decide ((e :: es).length + ([] : List Keyword).length + (if ([] : List Keyword).isEmpty then 0 else 1) < 30)) = true := by rfl)
  (hline : (apos.endLine == cpos.line) = true := by rfl) (hs : starEach (e :: es) X.env = (false, eval e X.env) :: starEach es X.env := by rfl) (hplain : (backTo cpos (starEach es X.env)).any (·.1) = false := by rfl) :
  PE X (.Call (.Attribute o name apos) (e :: es) [] cpos) (tBM X.K T r to t) := by
 intro pins s σ H Q I h
 refine wpAny_Call_method_late hbase hfew hline rfl (thn (ho pins s σ H _ I h) fun v s1 ⟨x, H1, I1, r1, ty, q1⟩ => ?_)
 obtain ⟨h1, h2⟩ := tyV_is I1 r1 ty
 refine ⟨T, id, pa, slot, hty, h1, h2, ?_⟩
 have hA := ha cpos pins s1 σ H1 _ I1 q1
 rw [hs] at hA ⊢
 refine Calls.callWith_builtin (by show (false || (backTo cpos (starEach es X.env)).any (·.1)) = false; rw [hplain] <;> rfl) (Calls.evalArgs_plain ?_)
 exact thn hA fun us s2 ⟨vs, H2, I2, r2, q2⟩ => hm pins s2 σ H2 x vs v us Q I2 r1 r2 q2
end
end L2
namespace L2
open PySem PySem.Spec PyProof.Rows
def MtM (X : Cx) (id : String) (r : V -> List V -> Hp -> VK -> Prop) : Prop :=
 ∀ (pins : List (Addr × Obj)) (s : Shared) (σ : St) (H : Hp) (x : V) (xs : List V) (v : Value) (us : List Value) (Q : VK), Inv X pins σ H s -> RelV x v -> Vals xs us -> r x xs H Q ->
  wpAny (model X.prog X.w) X.A (call (.builtin id) (v :: us)) (EP X pins σ Q) X.xe s
theorem Vals.one : ∀ {x : V} {us : List Value}, Vals [x] us -> ∃ u, us = [u] /\ RelV x u
 | _, _, .cons r .nil => ⟨_, rfl, r⟩
theorem Vals.zero : ∀ {us : List Value}, Vals [] us -> us = []
 | _, .nil => rfl
theorem Vals.dropLast {xs : List V} {us : List Value} (h : Vals xs us) : Vals xs.dropLast us.dropLast := by
 induction h with
 | nil => exact .nil
 | cons r t ih =>
  cases t with
  | nil => exact .nil
  | cons q t' => exact .cons r ih
theorem Vals.reverse {xs : List V} {us : List Value} (h : Vals xs us) : Vals xs.reverse us.reverse := by
 induction h with
 | nil => exact .nil
 | cons r t ih => rw [List.reverse_cons, List.reverse_cons]; exact Vals.append ih (.cons r .nil)
theorem Vals.rep {xs : List V} {us : List Value} (h : Vals xs us) : ∀ k : Nat, Vals (List.replicate k xs).flatten (List.replicate k us).flatten
 | 0 => .nil
 | k + 1 => by
  rw [List.replicate_succ, List.replicate_succ, List.flatten_cons, List.flatten_cons]
  exact Vals.append h (Vals.rep h k)
theorem erase_last {α : Type} (l : List α) : l.eraseIdx (l.length - 1) = l.dropLast := by
 induction l with
 | nil => rfl
 | cons a r ih =>
  cases r with
  | nil => rfl
  | cons b r =>
   have e : (a :: b :: r).length - 1 = ((b :: r).length - 1) + 1 := by
    have h1 : (a :: b :: r).length = r.length + 2 := rfl
    have h2 : (b :: r).length = r.length + 1 := rfl
    omega
   rw [e, List.eraseIdx_cons_succ, ih]
   all_goals rfl
theorem foldl_rep (its : List Value) : ∀ (k : Nat) (acc : List Value),
  List.foldl (fun x1 x2 => x1 ++ x2) acc.toArray (List.replicate k its.toArray) = (acc ++ (List.replicate k its).flatten).toArray
 | 0, acc => by simp
 | k + 1, acc => by
  have e : acc.toArray ++ its.toArray = (acc ++ its).toArray := by simp
  have e2 : (acc ++ its) ++ (List.replicate k its).flatten = acc ++ (List.replicate (k + 1) its).flatten := by
   rw [List.replicate_succ, List.flatten_cons, List.append_assoc]
  rw [<- e2, <- foldl_rep its k (acc ++ its), <- e, List.replicate_succ, List.foldl_cons]
section
variable {X : Cx} {pins : List (Addr × Obj)} {σ : St} {H : Hp} {s : Shared} {l b : Addr} {xs ys zs : List V}
theorem Inv.lset {its its' : List Value} {n : Nat} {f : Array Value -> Array Value} {t' : Nat} (I : Inv X pins σ H s) (hH : H l = some (.lst xs))
  (e : s.heap.get? l = some { cls := .type "list", data := .seq its.toArray n }) (hf : f its.toArray = its'.toArray) (hv : Vals ys its') (hz : ys.length <= sizeLine) :
  Inv X pins σ (upd H l (.lst ys)) { s with heap := s.heap.update l (Obj.mapSeq f), toks := t' } := by
 have q := PySem.IsL.update e f
 rw [hf] at q
 refine I.write (x := l) (e := l) (by rw [hH]; exact trivial) (.inl rfl) (fun b' u hb hu => (Heap.get?_update_other s.heap (Obj.mapSeq f) (Ne.symm hb)).trans hu) ⟨_, q⟩ ?_
 exact ⟨hz, its', _, hv, q⟩
theorem Inv.lnew {its : List Value} {t' : Nat} (I : Inv X pins σ H s) (hv : Vals ys its) (hz : ys.length <= sizeLine) :
  Inv X pins σ (upd H s.heap.objs.size (.lst ys)) { s with heap := s.heap.push { cls := .type "list", data := .seq its.toArray }, toks := t' } :=
 I.laid (fun _ _ q => Heap.get?_push_of_some _ q) (Nat.le_refl _) ⟨hz, its, 0, hv, Heap.get?_push_size _ rfl⟩
theorem Inv.fresh (I : Inv X pins σ H s) : H s.heap.objs.size = none := I.hok.fresh (Nat.le_refl _)
theorem Inv.lstM (I : Inv X pins σ H s) (hH : H l = some (.lst xs)) : xs.length <= sizeLine /\ ∃ (its : List Value) (n : Nat), Vals xs its /\ xs.length = its.length /\ s.heap.get? l = some { cls := .type "list", data := .seq its.toArray n } := by
 obtain ⟨z, its, n, r, e⟩ := I.hok l _ hH
 exact ⟨z, its, n, r, r.length, e⟩
theorem notLongL {n : Nat} (h : n <= sizeLine) : Builtin.List.listTooLong n = false := by
 unfold Builtin.List.listTooLong
 exact decide_eq_false (by omega)
end
section
variable {X : Cx}
def rAppend : V -> List V -> Hp -> VK -> Prop := fun x vs H Q => ∃ l xs y, x = .ref l /\ vs = [y] /\ H l = some (.lst xs) /\ xs.length < sizeLine /\ Q .non (upd H l (.lst (xs ++ [y])))
theorem mt_append : MtM X "list.append" rAppend := by
 intro pins s σ H x vs v us Q I rx rv h
 obtain ⟨l, xs, y, rfl, rfl, hH, hz, q⟩ := h
 cases rx
 obtain ⟨u, rfl, ru⟩ := rv.one
 obtain ⟨z, its, n, r, hl, e⟩ := I.lstM hH
 refine call_meets F.slot_list_append ⟨_, e, rfl⟩ F.entry_list_append (F.args_list_append_2 _ _) (PySem.list_append l its.toArray n u (by rw [List.size_toArray]; omega)) ⟨e, ?_⟩
 refine ⟨.non, _, I.lset (its' := its ++ [u]) hH e (by simp) (r.append (.cons ru .nil)) ?_, rfl, q⟩
 rw [List.length_append, List.length_singleton]
 omega
def rExtend : V -> List V -> Hp -> VK -> Prop := fun x vs H Q => ∃ l b xs zs, x = .ref l /\ vs = [.ref b] /\ H l = some (.lst xs) /\ H b = some (.lst zs) /\ xs.length + zs.length <= sizeLine /\ Q .non (upd H l (.lst (xs ++ zs)))
theorem mt_extend : MtM X "list.extend" rExtend := by
 intro pins s σ H x vs v us Q I rx rv h
 obtain ⟨l, b, xs, zs, rfl, rfl, hH, hB, hz, q⟩ := h
 cases rx
 obtain ⟨u, rfl, ru⟩ := rv.one
 cases ru
 obtain ⟨z, its, n, r, hl, e⟩ := I.lstM hH
 obtain ⟨z2, its2, n2, r2, hl2, e2⟩ := I.lstM hB
 have hsz : its.toArray.size + its2.toArray.size <= sizeLine := by rw [List.size_toArray, List.size_toArray]; omega
 have hlong : ¬ (!its.toArray.isEmpty && Builtin.List.listTooLong (its.toArray.size + its2.toArray.size)) = true := by
  rw [notLongL hsz, Bool.and_false]
  exact Bool.false_ne_true
 refine call_meets F.slot_list_extend ⟨_, e, rfl⟩ F.entry_list_extend (F.args_list_extend_2 _ _)
  (AutoSeq1.list_extend_list_list_0 l its.toArray n b its2.toArray n2 hlong (by rw [List.size_toArray]; omega) (by omega)) ⟨e, e2, ?_⟩
 refine ⟨.non, _, I.lset (its' := its ++ its2) hH e (by simp) (r.append r2) ?_, rfl, q⟩
 rw [List.length_append]
 omega
def rPop : V -> List V -> Hp -> VK -> Prop := fun x vs H Q => ∃ l xs y, x = .ref l /\ vs = [] /\ H l = some (.lst xs) /\ xs[xs.length - 1]? = some y /\ Q y (upd H l (.lst xs.dropLast))
theorem mt_pop : MtM X "list.pop" rPop := by
 intro pins s σ H x vs v us Q I rx rv h
 obtain ⟨l, xs, y, rfl, rfl, hH, hy, q⟩ := h
 cases rx
 have hus := rv.zero
 subst hus
 obtain ⟨z, its, n, r, hl, e⟩ := I.lstM hH
 obtain ⟨u, hu, ru⟩ := r.get hy
 have hy' : its.toArray[its.toArray.size - 1]? = some u := by
  show its.toArray[its.length - 1]? = some u
  rw [<- Array.getElem?_toList, <- hl]
  exact hu
 refine call_meets F.slot_list_pop ⟨_, e, rfl⟩ F.entry_list_pop (F.args_list_pop_1 _) (MeetsSeq.list_pop_last l its.toArray n u hy' (by rw [List.size_toArray]; omega)) ⟨e, ?_⟩
 refine ⟨y, _, I.lset (its' := its.dropLast) hH e ?_ r.dropLast ?_, ru, q⟩
 ·show its.toArray.eraseIdxIfInBounds (its.toArray.size - 1) = its.dropLast.toArray
  rw [List.size_toArray, List.eraseIdxIfInBounds_toArray, erase_last]
 ·rw [List.length_dropLast]
  omega
def rReverse : V -> List V -> Hp -> VK -> Prop := fun x vs H Q => ∃ l xs, x = .ref l /\ vs = [] /\ H l = some (.lst xs) /\ Q .non (upd H l (.lst xs.reverse))
theorem mt_reverse : MtM X "list.reverse" rReverse := by
 intro pins s σ H x vs v us Q I rx rv h
 obtain ⟨l, xs, rfl, rfl, hH, q⟩ := h
 cases rx
 have hus := rv.zero
 subst hus
 obtain ⟨z, its, n, r, hl, e⟩ := I.lstM hH
 refine call_meets F.slot_list_reverse ⟨_, e, rfl⟩ F.entry_list_reverse (F.args_list_reverse_1 _) (AutoSeq1.list_reverse_list_0 l its.toArray n (by rw [List.size_toArray]; omega)) ⟨e, ?_⟩
 refine ⟨.non, _, I.lset (its' := its.reverse) hH e (by simp) r.reverse ?_, rfl, q⟩
 rw [List.length_reverse]
 omega
def rCat : R2 := fun x y H Q => ∃ l b xs zs, x = .ref l /\ y = .ref b /\ H l = some (.lst xs) /\ H b = some (.lst zs) /\ xs.length + zs.length <= sizeLine /\ ∀ p, H p = none -> Q (.ref p) (upd H p (.lst (xs ++ zs)))
theorem op_cat : OpR X (binaryOp .Add) rCat := by
 intro pins s σ H x y v u Q I rx ry h
 obtain ⟨l, b, xs, zs, rfl, rfl, hH, hB, hz, q⟩ := h
 cases rx
 cases ry
 obtain ⟨z, its, n, r, hl, e⟩ := I.lstM hH
 obtain ⟨z2, its2, n2, r2, hl2, e2⟩ := I.lstM hB
 refine PySem.P.add_list e e2 ?_ (by rw [List.size_toArray, List.size_toArray]; omega)
 have ea : its.toArray ++ its2.toArray = (its ++ its2).toArray := by simp
 rw [ea]
 exact ⟨.ref _, _, I.lnew (t' := s.toks) (r.append r2) (by rw [List.length_append]; omega), rfl, q _ I.fresh⟩
def rRep : R2 := fun x y H Q => ∃ l k xs, x = .ref l /\ y = .int k /\ H l = some (.lst xs) /\ -(2 ^ 63) <= k /\ k < 2 ^ 63 /\ xs.length * k.toNat <= sizeLine /\
 ∀ p, H p = none -> Q (.ref p) (upd H p (.lst (List.replicate k.toNat xs).flatten))
theorem len_rep {α : Type} (xs : List α) (k : Nat) : (List.replicate k xs).flatten.length = k * xs.length := by
 induction k with
 | zero => simp
 | succ k ih => rw [List.replicate_succ, List.flatten_cons, List.length_append, ih, Nat.succ_mul, Nat.add_comm]
theorem op_rep : OpR X (binaryOp .Mult) rRep := by
 intro pins s σ H x y v u Q I rx ry h
 obtain ⟨l, k, xs, rfl, rfl, hH, h1, h2, hz, q⟩ := h
 cases rx
 obtain ⟨t, rfl⟩ := ry
 obtain ⟨z, its, n, r, hl, e⟩ := I.lstM hH
 have hlen : its.toArray.size * k.toNat <= sizeLine := by rw [List.size_toArray, <- hl]; exact hz
 have hcap : ¬ its.toArray.size * k.toNat > (2 ^ 63 - 1) / 8 := by
  have : (sizeLine : Nat) <= (2 ^ 63 - 1) / 8 := by decide
  omega
 have hfit : ¬ (!Builtin.List.listFitsIndex k) = true := by
  rw [fitsIndex_both h1 h2]
  exact Bool.false_ne_true
 have hlong : ¬ Builtin.List.listTooLong (its.toArray.size * k.toNat) = true := by
  rw [notLongL hlen]
  exact Bool.false_ne_true
 have hnew : List.foldl (fun x1 x2 => x1 ++ x2) #[] (List.replicate (if its.toArray.isEmpty = true then 0 else k.toNat) its.toArray) = (List.replicate k.toNat its).flatten.toArray := by
  have f0 : ∀ m : Nat, List.foldl (fun x1 x2 => x1 ++ x2) #[] (List.replicate m its.toArray) = (List.replicate m its).flatten.toArray := fun m => by
   have := foldl_rep its m []
   rw [List.nil_append] at this
   exact this
  rw [f0]
  cases its with
  | nil => simp
  | cons a r' => rw [if_neg (by simp)]
 refine wpAny_binaryOp_repeat_ref (T := "list") (U := "int") (by decide) ⟨_, e, rfl⟩ (fun s' => typeIs_int s' k t) noFill_list_mul F.fills_int_mul F.slot_int_rmul repeat_list F.slot_int_index.lookup
  (call_meets F.slot_int_rmul (typeIs_int s k t) F.entry_int_rmul (F.args_int_rmul_2 _ _) (int___rmul___int_list k t l its.toArray n)
   ⟨e, rfl, ⟨_, e, rfl⟩, call_meets F.slot_list_mul ⟨_, e, rfl⟩ F.entry_list_mul (F.args_list_mul_2 _ _) (AutoListH.list___mul___list_int_3 l its.toArray n k t hfit hcap hlong) ⟨e, ?_⟩⟩)
 rw [hnew]
 exact ⟨.ref _, _, I.lnew (t' := s.toks) (r.rep k.toNat) (by rw [len_rep, Nat.mul_comm]; exact hz), rfl, q _ I.fresh⟩
end
end L2
namespace L2
open PySem PySem.Spec PyProof.Rows
theorem Vals.ints : ∀ {ns : List Int} {us : List Value}, Vals (ns.map V.int) us -> IntsAre us ns
 | [], us, h => by
  rw [List.map_nil] at h
  cases h
  exact IntsAre.nil
 | n :: ns, us, h => by
  rw [List.map_cons] at h
  cases h with
  | cons r t =>
   obtain ⟨k, rfl⟩ := r
   exact IntsAre.cons n k (Vals.ints t)
theorem vals_of_ints : ∀ {us : List Value} {ns : List Int}, IntsAre us ns -> Vals (ns.map V.int) us
 | _, _, .nil => by rw [List.map_nil]; exact Paired.nil
 | _, _, .cons n t h => by rw [List.map_cons]; exact Paired.cons (show RelV (V.int n) (Value.int n t) from ⟨t, rfl⟩) (vals_of_ints h)
theorem Vals.ref1 {a : Addr} {us : List Value} (r : Vals [V.ref a] us) : us = [Value.ref a] := by
 cases r with
 | cons r t =>
  cases t
  cases r
  rfl
section
variable {prog : Program} {w : World} {A : Around} {E : Value -> Shared -> Prop} {s : Shared} {l : Addr} {its : List Value} {ns : List Int} {Q : Value -> Shared -> Prop}
theorem sum_raw (hh : A.handled = none) (hl : s.heap.IsList l its.toArray) (hi : IntsAre its ns)
  (h : ∀ h' tk t', (∀ b o, s.heap.get? b = some o -> h'.get? b = some o) -> Q (.int ns.sum t') { s with heap := h', toks := tk }) : wpAny (model prog w) A (call (.builtin "sum") [.ref l]) Q E s := by
 obtain ⟨xs, e⟩ := hi.allInts.items
 have hn : numsOf (intItems xs).toList = ns := by rw [<- e]; exact hi.numsOf
 rw [nums_intItems] at hn
 rw [e] at hl
 refine PySem.sum_intListG hh hl fun h' tk t' hk => ?_
 have := h h' tk t' hk
 rw [preSum_eq, List.take_of_length_le (by simp), hn]; exact this
theorem max_raw (hh : A.handled = none) (hl : s.heap.IsList l its.toArray) (hi : IntsAre its ns) (hne : 0 < ns.length)
  (h : ∀ h' tk M t', (∀ b o, s.heap.get? b = some o -> h'.get? b = some o) -> M ∈ ns -> (∀ a, a ∈ ns -> a <= M) -> Q (.int M t') { s with heap := h', toks := tk }) : wpAny (model prog w) A (call (.builtin "max") [.ref l]) Q E s := by
 obtain ⟨xs, e⟩ := hi.allInts.items
 have hn : numsOf (intItems xs).toList = ns := by rw [<- e]; exact hi.numsOf
 rw [nums_intItems] at hn
 subst hn
 rw [e] at hl
 have hsz : 0 < xs.size := by simpa using hne
 refine PySem.max_intList hh hl hsz fun v h' tk hv hk => ?_
 obtain ⟨t, rfl⟩ := intItems_at hv
 obtain ⟨h1, h2⟩ := argBest_gt (numAt xs) (xs.size - 1)
 refine h h' tk _ t hk ?_ fun a ha => ?_
 ·rw [numAt_eq]; exact PySem.getD_mem (by rw [List.length_map, Array.length_toList]; omega)
 ·obtain ⟨j, hj, rfl⟩ := mem_getD ha
  rw [List.length_map, Array.length_toList] at hj
  rw [<- numAt_eq]; exact h2 j (by omega)
theorem min_raw (hh : A.handled = none) (hl : s.heap.IsList l its.toArray) (hi : IntsAre its ns) (hne : 0 < ns.length)
  (h : ∀ h' tk M t', (∀ b o, s.heap.get? b = some o -> h'.get? b = some o) -> M ∈ ns -> (∀ a, a ∈ ns -> M <= a) -> Q (.int M t') { s with heap := h', toks := tk }) : wpAny (model prog w) A (call (.builtin "min") [.ref l]) Q E s := by
 obtain ⟨xs, e⟩ := hi.allInts.items
 have hn : numsOf (intItems xs).toList = ns := by rw [<- e]; exact hi.numsOf
 rw [nums_intItems] at hn
 subst hn
 rw [e] at hl
 have hsz : 0 < xs.size := by simpa using hne
 refine PySem.min_intList hh hl hsz fun v h' tk hv hk => ?_
 obtain ⟨t, rfl⟩ := intItems_at hv
 obtain ⟨h1, h2⟩ := argBest_lt (numAt xs) (xs.size - 1)
 refine h h' tk _ t hk ?_ fun a ha => ?_
 ·rw [numAt_eq]; exact PySem.getD_mem (by rw [List.length_map, Array.length_toList]; omega)
 ·obtain ⟨j, hj, rfl⟩ := mem_getD ha
  rw [List.length_map, Array.length_toList] at hj
  rw [<- numAt_eq]; exact h2 j (by omega)
end
section
variable {X : Cx}
def rSum (K : PySem.W.Frag) : List V -> Hp -> VK -> Prop := fun vs H Q => ∃ (a : Addr) (ns : List Int), vs = [V.ref a] /\ SqL K H a (ns.map V.int) /\ Q (.int ns.sum) H
def rMax (K : PySem.W.Frag) : List V -> Hp -> VK -> Prop := fun vs H Q => ∃ (a : Addr) (ns : List Int), vs = [V.ref a] /\ SqL K H a (ns.map V.int) /\ 0 < ns.length /\ ∀ m, m ∈ ns -> (∀ y, y ∈ ns -> y <= m) -> Q (.int m) H
def rMin (K : PySem.W.Frag) : List V -> Hp -> VK -> Prop := fun vs H Q => ∃ (a : Addr) (ns : List Int), vs = [V.ref a] /\ SqL K H a (ns.map V.int) /\ 0 < ns.length /\ ∀ m, m ∈ ns -> (∀ y, y ∈ ns -> m <= y) -> Q (.int m) H
theorem cr_sum (hc : X.calm = true) : CallR X (.builtin "sum") (rSum X.K) := by
 intro pins s σ H vs us Q I r h
 obtain ⟨a, ns, rfl, hs, q⟩ := h
 obtain ⟨its, rv, hl, _⟩ := I.list hs
 rw [Vals.ref1 r]
 exact sum_raw (I.ok.hd hc) hl.isList rv.ints fun h' tk t' hk => ⟨.int _, H, I.kept hk, ⟨_, rfl⟩, q⟩
theorem cr_max (hc : X.calm = true) : CallR X (.builtin "max") (rMax X.K) := by
 intro pins s σ H vs us Q I r h
 obtain ⟨a, ns, rfl, hs, hne, q⟩ := h
 obtain ⟨its, rv, hl, _⟩ := I.list hs
 rw [Vals.ref1 r]
 exact max_raw (I.ok.hd hc) hl.isList rv.ints hne fun h' tk m t' hk h1 h2 => ⟨.int _, H, I.kept hk, ⟨_, rfl⟩, q m h1 h2⟩
theorem cr_min (hc : X.calm = true) : CallR X (.builtin "min") (rMin X.K) := by
 intro pins s σ H vs us Q I r h
 obtain ⟨a, ns, rfl, hs, hne, q⟩ := h
 obtain ⟨its, rv, hl, _⟩ := I.list hs
 rw [Vals.ref1 r]
 exact min_raw (I.ok.hd hc) hl.isList rv.ints hne fun h' tk m t' hk h1 h2 => ⟨.int _, H, I.kept hk, ⟨_, rfl⟩, q m h1 h2⟩
end
end L2
namespace L2
open PySem PySem.Spec PyProof.Rows
abbrev CellAt (h : Heap) (c : Addr) (v : Option Value) : Prop := h.IsCell c v
def relS (scope sc : Scope) : Scope :=
 { scope with names := scope.names.map fun (n, k) => if (k == .free && sc.kind == .function && sc.names.lookup n == some .cell) then (n, .cell) else (n, k) }
def cloFrom (cells : List (Str × Addr)) : List (Str × NameKind) -> List (Str × Addr) -> List (Str × Addr)
 | [], acc => acc
 | (n, k) :: r, acc => if k == .free then cloFrom cells r ((n, (cells.lookup n).getD 0) :: acc) else cloFrom cells r acc
theorem closure_loop (env : Env) (f : Str × NameKind -> List (Str × Addr) -> Sem (ForInStep (List (Str × Addr))))
  (hf : ∀ n k c, f (n, k) c = if k == .free then (do let a <- cellOf env n; pure (.yield ((n, a) :: c))) else pure (.yield c)) :
  ∀ (names : List (Str × NameKind)) (acc : List (Str × Addr)), (∀ y ∈ names, y.2 = .free -> ∃ c, env.cells.lookup y.1 = some c) -> forIn names acc f = pure (cloFrom env.cells names acc)
 | [], acc, _ => by rw [List.forIn_nil]; rfl
 | (n, k) :: r, acc, h => by
  rw [List.forIn_cons, hf]
  have ih := fun acc => closure_loop env f hf r acc fun y hy => h y (List.mem_cons_of_mem _ hy)
  unfold cloFrom
  by_cases hk : (k == NameKind.free) = true
  ·rw [if_pos hk, if_pos hk]
   obtain ⟨c, hc⟩ := h (n, k) List.mem_cons_self (by simpa using hk)
   have e : cellOf env n = pure c := by unfold cellOf; rw [hc]
   rw [e]
   have e2 : (env.cells.lookup n).getD 0 = c := by rw [hc]; rfl
   rw [e2]
   exact ih _
  ·rw [if_neg hk, if_neg hk]
   exact ih _
theorem closure_ok {scope : Scope} {env : Env} (h : ∀ y ∈ scope.names, y.2 = .free -> ∃ c, env.cells.lookup y.1 = some c) : closureFor scope env = pure (cloFrom env.cells scope.names []) := by
 simp only [closureFor]
 rw [closure_loop env _ (fun n k c => rfl) scope.names [] h]
 rfl
theorem mem_lookup {α : Type} : ∀ {l : List (Str × α)} {n : Str} {c : α}, (n, c) ∈ l -> ∃ c', l.lookup n = some c'
 | (k, v) :: r, n, c, h => by
  rw [List.lookup_cons]
  cases hb : n == k with
  | true => exact ⟨_, rfl⟩
  | false =>
   rcases List.mem_cons.mp h with e | h
   ·cases e; simp at hb
   ·exact mem_lookup h
theorem cloFrom_mem {cells : List (Str × Addr)} : ∀ {names : List (Str × NameKind)} {acc : List (Str × Addr)} {n : Str} {c : Addr}, (n, c) ∈ cloFrom cells names acc -> (n, c) ∈ acc \/ ((n, .free) ∈ names /\ c = (cells.lookup n).getD 0)
 | [], _, _, _, h => .inl h
 | (m, k) :: r, acc, n, c, h => by
  unfold cloFrom at h
  split at h
  ·rename_i hk
   have hk : k = .free := by simpa using hk
   rcases cloFrom_mem h with h | ⟨h1, h2⟩
   ·rcases List.mem_cons.mp h with e | h
    ·cases e; exact .inr ⟨hk ▸ List.mem_cons_self, rfl⟩
    ·exact .inl h
   ·exact .inr ⟨List.mem_cons_of_mem _ h1, h2⟩
  ·rcases cloFrom_mem h with h | ⟨h1, h2⟩
   ·exact .inl h
   ·exact .inr ⟨List.mem_cons_of_mem _ h1, h2⟩
theorem cloFrom_acc {cells : List (Str × Addr)} : ∀ {names : List (Str × NameKind)} {acc : List (Str × Addr)} {p : Str × Addr}, p ∈ acc -> p ∈ cloFrom cells names acc
 | [], _, _, h => h
 | (m, k) :: r, acc, p, h => by
  unfold cloFrom
  split
  ·exact cloFrom_acc (List.mem_cons_of_mem _ h)
  ·exact cloFrom_acc h
theorem cloFrom_has {cells : List (Str × Addr)} : ∀ {names : List (Str × NameKind)} {acc : List (Str × Addr)} {n : Str}, (n, .free) ∈ names -> (n, (cells.lookup n).getD 0) ∈ cloFrom cells names acc
 | (m, k) :: r, acc, n, h => by
  unfold cloFrom
  rcases List.mem_cons.mp h with e | h
  ·cases e
   exact cloFrom_acc List.mem_cons_self
  ·split
   ·exact cloFrom_has h
   ·exact cloFrom_has h
theorem cells_mem : ∀ {names : List (Str × NameKind)} {h : Heap} {acc : List (Str × Addr)} {x : Str} {c : Addr}, (x, c) ∈ cellsFrom h.objs.size names acc ->
  (x, c) ∈ acc \/ ((x, .cell) ∈ names /\ h.objs.size <= c /\ CellAt (pushCells h names) c none)
 | [], _, _, _, _, h => .inl h
 | (n, k) :: r, h, acc, x, c, hm => by
  unfold cellsFrom at hm
  unfold pushCells
  split at hm
  ·rename_i hk
   rw [if_pos hk]
   have hk : k = .cell := by simpa using hk
   rw [<- Heap.size_push h { cls := .type "cell", data := .cell none }] at hm
   rcases cells_mem hm with hm | ⟨h1, h2, h3⟩
   ·rcases List.mem_cons.mp hm with e | hm
    ·cases e
     exact .inr ⟨hk ▸ List.mem_cons_self, Nat.le_refl _, _, pushCells_keeps r _ _ _ (Heap.get?_push_size _ rfl), rfl⟩
    ·exact .inl hm
   ·rw [Heap.size_push] at h2
    exact .inr ⟨List.mem_cons_of_mem _ h1, Nat.le_of_succ_le h2, h3⟩
  ·rename_i hk
   rw [if_neg hk]
   rcases cells_mem hm with hm | ⟨h1, h2, h3⟩
   ·exact .inl hm
   ·exact .inr ⟨List.mem_cons_of_mem _ h1, h2, h3⟩
theorem cells_acc : ∀ {names : List (Str × NameKind)} {n : Nat} {acc : List (Str × Addr)} {p : Str × Addr}, p ∈ acc -> p ∈ cellsFrom n names acc
 | [], _, _, _, h => h
 | (m, k) :: r, n, acc, p, h => by
  unfold cellsFrom
  split
  ·exact cells_acc (List.mem_cons_of_mem _ h)
  ·exact cells_acc h
theorem cells_has : ∀ {names : List (Str × NameKind)} {n : Nat} {acc : List (Str × Addr)} {x : Str}, (x, .cell) ∈ names -> ∃ c, (x, c) ∈ cellsFrom n names acc
 | (m, k) :: r, n, acc, x, h => by
  unfold cellsFrom
  rcases List.mem_cons.mp h with e | h
  ·cases e
   exact ⟨n, cells_acc List.mem_cons_self⟩
  ·split
   ·exact cells_has h
   ·exact cells_has h
theorem cells_inj : ∀ {names : List (Str × NameKind)} {h : Heap} {acc : List (Str × Addr)} {x y : Str} {c : Addr}, (∀ p ∈ acc, p.2 < h.objs.size) -> (∀ x y c, (x, c) ∈ acc -> (y, c) ∈ acc -> x = y) ->
  (x, c) ∈ cellsFrom h.objs.size names acc -> (y, c) ∈ cellsFrom h.objs.size names acc -> x = y
 | [], _, _, _, _, _, _, hi, h1, h2 => hi _ _ _ h1 h2
 | (n, k) :: r, h, acc, x, y, c, hl, hi, h1, h2 => by
  unfold cellsFrom at h1 h2
  split at h1
  ·rename_i hk
   rw [if_pos hk] at h2
   rw [<- Heap.size_push h { cls := .type "cell", data := .cell none }] at h1 h2
   refine cells_inj (h := h.push _) (fun p hp => ?_) (fun x y c a b => ?_) h1 h2
   ·rw [Heap.size_push]
    rcases List.mem_cons.mp hp with rfl | hp
    ·exact Nat.lt_succ_self _
    ·exact Nat.lt_succ_of_lt (hl p hp)
   ·rcases List.mem_cons.mp a with e | a <;> rcases List.mem_cons.mp b with e' | b
    ·cases e; cases e'; rfl
    ·cases e; exact absurd (hl _ b) (Nat.lt_irrefl _)
    ·cases e'; exact absurd (hl _ a) (Nat.lt_irrefl _)
    ·exact hi _ _ _ a b
  ·rename_i hk
   rw [if_neg hk] at h2
   exact cells_inj hl hi h1 h2
theorem newEnv_comp {M : Model} {A : Around} {E : Value -> Shared -> Prop} {s : Shared} {scope : Scope} {globals : Addr} {closure : List (Str × Addr)} {qual : Str} {func : Option Addr} {code : Value} {around : Env} {builtins : Addr} {Q : Env -> Shared -> Prop}
  (h : Q (newEnv scope s.heap.objs.size globals (cellsFrom (s.heap.objs.size + 1) scope.names closure) qual func code (some around) builtins)
   { s with heap := pushCells (s.heap.push { cls := .type "dict", data := .dict #[] }) scope.names }) :
  wpAny M A (newFunctionEnv scope globals closure [] qual func code (some around) builtins) Q E s := by
 simp only [newFunctionEnv, Option.isSome_some, if_true]
 refine wpAny_bind (wpAny_alloc ?_)
 refine wpAny_bind (wpAny_layCells _ (fun n k c => rfl) scope.names closure _ _ ?_)
 rw [show ({ s with heap := s.heap.push { cls := .type "dict", data := .dict #[] } } : Shared).heap.objs.size = s.heap.objs.size + 1 from Heap.size_push ..]
 rw [List.forIn_nil]
 exact wpAny_bind (wpAny_pure (wpAny_pure h))
theorem lookup_relS {sc : Scope} : ∀ {names : List (Str × NameKind)} {x : Str} {k : NameKind},
  (names.map fun (n, k) => if (k == NameKind.free && sc.kind == .function && sc.names.lookup n == some .cell) then (n, NameKind.cell) else (n, k)).lookup x = some k ->
  ∃ k', names.lookup x = some k' /\ (k = k' \/ (k' = .free /\ k = .cell))
 | [], _, _, h => by simp at h
 | (n, k₀) :: r, x, k, h => by
  have ih := @lookup_relS sc r x k
  have h' : List.lookup x ((if (k₀ == NameKind.free && sc.kind == .function && sc.names.lookup n == some .cell) = true then (n, NameKind.cell) else (n, k₀)) :: (r.map _)) = some k := h
  cases hx : x == n with
  | true =>
   simp only [List.lookup_cons, hx]
   by_cases hc : (k₀ == NameKind.free && sc.kind == .function && sc.names.lookup n == some .cell) = true
   ·rw [if_pos hc] at h'
    simp only [List.lookup_cons, hx] at h'
    cases h'
    simp only [Bool.and_eq_true, beq_iff_eq] at hc
    exact ⟨k₀, rfl, .inr ⟨hc.1.1, rfl⟩⟩
   ·rw [if_neg hc] at h'
    simp only [List.lookup_cons, hx] at h'
    cases h'
    exact ⟨_, rfl, .inl rfl⟩
  | false =>
   simp only [List.lookup_cons, hx]
   by_cases hc : (k₀ == NameKind.free && sc.kind == .function && sc.names.lookup n == some .cell) = true
   ·rw [if_pos hc] at h'
    simp only [List.lookup_cons, hx] at h'
    exact ih h'
   ·rw [if_neg hc] at h'
    simp only [List.lookup_cons, hx] at h'
    exact ih h'
structure BlkOk (N : List Str) (sc scope : Scope) (own : List (Str × Nat)) : Prop where
 kind : scope.kind = .function
 uniq : ∀ y ∈ scope.names, scope.names.lookup y.1 = some y.2
 ix : ∀ p ∈ own, N[p.2]? = some p.1
 free : ∀ y ∈ scope.names, y.2 = .free -> sc.names.lookup y.1 = some .cell \/ sc.names.lookup y.1 = some .free
 own : ∀ y ∈ scope.names, y.2 = .local \/ y.2 = .cell -> y.1 ∈ own.map (·.1) \/ y.1 ∉ N
def wipe (σ : St) : List Nat -> St
 | [] => σ
 | v :: vs => (wipe σ vs).set v none
theorem wipe_length (σ : St) : ∀ vs : List Nat, (wipe σ vs).length = σ.length
 | [] => rfl
 | v :: vs => by unfold wipe; rw [List.length_set, wipe_length σ vs]
theorem wipe_some {σ : St} {i : Nat} {x : V} : ∀ {vs : List Nat}, (wipe σ vs)[i]? = some (some x) -> σ[i]? = some (some x) /\ i ∉ vs
 | [], h => ⟨h, by simp⟩
 | v :: vs, h => by
  unfold wipe at h
  by_cases hi : v = i
  ·subst hi
   by_cases hv : v < (wipe σ vs).length
   ·rw [List.getElem?_set_self hv] at h; cases h
   ·rw [List.getElem?_eq_none (by simpa using hv)] at h; cases h
  ·rw [List.getElem?_set_ne hi] at h
   obtain ⟨h1, h2⟩ := wipe_some h
   exact ⟨h1, by simp only [List.mem_cons, not_or]; exact ⟨fun e => hi e.symm, h2⟩⟩
abbrev Cx.blk (X : Cx) (s : Shared) (H : Hp) (scope : Scope) (cenv : Env) (fp : List Addr) : Cx := { X with s_0 := s, H_0 := H, env := cenv, outer := X.stack, ex := fp, fn := fun x => scope.names.lookup x == some .cell, pn := [], xe := fun _ _ => False }
section
variable {X : Cx} {pins : List (Addr × Obj)} {σ : St} {H : Hp} {s : Shared}
theorem block_start {scope : Scope} {own : List (Str × Nat)} {fp : List Addr} (I : Inv X pins σ H s) (ok : BlkOk X.N X.env.scope scope own) (hN : X.N.Nodup) (hfp : ∀ b ∈ fp, FpOk X pins H b /\ b < s.heap.objs.size) :
  Inv (X.blk s H scope (compEnvC scope (cellsFrom (s.heap.objs.size + 1) scope.names (cloFrom X.env.cells scope.names [])) s.heap.objs.size X.env) fp) [] (wipe σ (own.map (·.2))) H { s with heap := pushCells (s.heap.push { cls := .type "dict", data := .dict #[] }) scope.names } := by
 have hfree : ∀ y ∈ scope.names, y.2 = .free -> ∃ c, X.env.cells.lookup y.1 = some c := fun y hy e => by
  rcases ok.free y hy e with k | k
  ·exact I.ok.has _ (.inl k)
  ·exact I.ok.has _ (.inr k)
 generalize hcenv : compEnvC scope (cellsFrom (s.heap.objs.size + 1) scope.names (cloFrom X.env.cells scope.names [])) s.heap.objs.size X.env = cenv
 have kp : ∀ b o, s.heap.get? b = some o -> (pushCells (s.heap.push { cls := .type "dict", data := .dict #[] }) scope.names).get? b = some o := fun b o e => pushCells_keeps _ _ _ _ (Heap.get?_push_of_some _ e)
 have hL : cenv.locals = s.heap.objs.size := by rw [<- hcenv]; rfl
 have hcl : cenv.cells = cellsFrom (s.heap.objs.size + 1) scope.names (cloFrom X.env.cells scope.names []) := by rw [<- hcenv]; rfl
 have hsc : cenv.scope = relS scope X.env.scope := by rw [<- hcenv]; rfl
 rw [<- Heap.size_push s.heap { cls := .type "dict", data := .dict #[] }] at hcl
 have cm : ∀ {y c}, (y, c) ∈ cloFrom X.env.cells scope.names [] -> X.env.cells.lookup y = some c /\ c < s.heap.objs.size := fun {y c} hm => by
  rcases cloFrom_mem hm with hm | ⟨h1, rfl⟩
  ·cases hm
  ·obtain ⟨c, hc⟩ := hfree _ h1 rfl
   rw [hc]
   obtain ⟨w, z⟩ := I.cell _ _ hc
   exact ⟨rfl, z.lt⟩
 have mem : ∀ {y c}, cenv.cells.lookup y = some c -> (X.env.cells.lookup y = some c /\ c < s.heap.objs.size) \/ (s.heap.objs.size + 1 <= c /\ CellAt (pushCells (s.heap.push { cls := .type "dict", data := .dict #[] }) scope.names) c none) := fun {y c} e => by
  rw [hcl] at e
  rcases cells_mem (PySem.mem_of_lookup e) with hm | ⟨_, h2, h3⟩
  ·exact .inl (cm hm)
  ·rw [Heap.size_push] at h2; exact .inr ⟨h2, h3⟩
 have look : ∀ {y}, scope.names.lookup y = some .free -> ∃ c, cenv.cells.lookup y = some c /\ X.env.cells.lookup y = some c := fun {y} hl => by
  have hy : (y, NameKind.free) ∈ scope.names := PySem.mem_of_lookup hl
  obtain ⟨c', e'⟩ := mem_lookup (cells_acc (names := scope.names) (n := (s.heap.push { cls := .type "dict", data := .dict #[] }).objs.size) (cloFrom_has (cells := X.env.cells) (acc := []) hy))
  rw [<- hcl] at e'
  refine ⟨c', e', ?_⟩
  rw [hcl] at e'
  rcases cells_mem (PySem.mem_of_lookup e') with hm | ⟨h1, _, _⟩
  ·exact (cm hm).1
  ·have := ok.uniq _ h1
   rw [hl] at this; cases this
 have okB : (X.blk s H scope cenv fp).Ok := by
  refine ⟨I.ok.mod, by show cenv.scope.kind = _; rw [hsc]; exact ok.kind, by show cenv.globals = _; rw [<- hcenv]; exact I.ok.glob, by show cenv.builtins = _; rw [<- hcenv]; exact I.ok.blt, by show s.heap.objs.size <= cenv.locals; rw [hL]; exact Nat.le_refl _,
   fun y z c e1 e2 => ?_, fun y hy => ?_, fun y c z e => ?_, I.ok.hd, I.ok.frames, .inl rfl, fun b hb => ⟨?_, fun y c e z => ?_⟩, I.bs, Nat.le_trans I.ok.bsz I.sz, fun b o e hb => ?_, fun b hb z => ?_, I.stack, I.stkFree⟩
  ·have e1 : cenv.cells.lookup y = some c := e1
   have e2 : cenv.cells.lookup z = some c := e2
   rw [hcl] at e1 e2
   refine cells_inj (fun p hp => ?_) (fun y z c a b => I.ok.inj y z c (cm a).1 (cm b).1) (PySem.mem_of_lookup e1) (PySem.mem_of_lookup e2)
   rw [Heap.size_push]
   exact Nat.lt_succ_of_lt (cm (y := p.1) (c := p.2) hp).2
  ·show ∃ c, cenv.cells.lookup y = some c
   have key : ∀ k, cenv.kindOf y = some k -> (k = .cell \/ k = .free) -> ∃ c, cenv.cells.lookup y = some c := fun k hk hk' => by
    unfold Env.kindOf at hk
    rw [hsc] at hk
    obtain ⟨k', e, r⟩ := lookup_relS hk
    have : k' = .cell \/ k' = .free := by
     rcases r with rfl | ⟨rfl, _⟩
     ·exact hk'
     ·exact .inr rfl
    rcases this with rfl | rfl
    ·obtain ⟨c, hm⟩ := cells_has (n := (s.heap.push { cls := .type "dict", data := .dict #[] }).objs.size) (acc := cloFrom X.env.cells scope.names []) (PySem.mem_of_lookup e)
     obtain ⟨c', e'⟩ := mem_lookup hm
     exact ⟨c', by rw [hcl]; exact e'⟩
    ·obtain ⟨c, h1, _⟩ := look e
     exact ⟨c, h1⟩
   rcases hy with hy | hy
   ·exact key _ hy (.inl rfl)
   ·exact key _ hy (.inr rfl)
  ·have z : (scope.names.lookup y == some NameKind.cell) = true := z
   have z : scope.names.lookup y = some .cell := by simpa using z
   have e : cenv.cells.lookup y = some c := e
   rw [hcl] at e
   rcases cells_mem (PySem.mem_of_lookup e) with hm | ⟨_, h2, _⟩
   ·rcases cloFrom_mem hm with hm | ⟨h1, _⟩
    ·cases hm
    ·have q := ok.uniq _ h1
     rw [z] at q; cases q
   ·rw [Heap.size_push] at h2
    exact Nat.le_of_succ_le h2
  ·show b ≠ cenv.locals
   rw [hL]; exact Nat.ne_of_lt (hfp b hb).2
  ·have e : cenv.cells.lookup y = some c := e
   rcases mem e with ⟨h1, _⟩ | ⟨h1, _⟩
   ·exact (hfp b hb).1.2.2.2.2.1 y c h1 z
   ·have h2 : s.heap.objs.size + 1 <= b := by rw [<- z]; exact h1
    exact absurd (Nat.lt_of_lt_of_le (hfp b hb).2 (Nat.le_of_succ_le h2)) (Nat.lt_irrefl _)
  ·rcases (hfp b hb).1.2.2.2.1 with z | z
   ·exact I.ok.noex b o e z
   ·exact absurd (Nat.lt_of_lt_of_le (Heap.lt_size e) (Nat.le_trans I.ok.bsz z)) (Nat.lt_irrefl _)
  ·rcases List.mem_cons.mp (I.stkSub b z) with z | z
   ·exact (hfp b hb).1.2.1 z
   ·exact (hfp b hb).1.2.2.1 z
 refine ⟨okB, rfl, I.bare, Un.kept kp, ⟨fun _ => none, ?_, fun i y av e1 e2 e3 => ?_⟩, fun y c e => ?_, ?_, fun y c e => ?_, fun p hp => ?_, I.hok.kept kp, by rw [wipe_length]; exact I.len⟩
 ·show Heap.Ns _ cenv.locals _
  rw [hL]
  exact Heap.Ns.keeps (Heap.Ns.new ..) fun b o e => pushCells_keeps _ _ _ _ e
 ·obtain ⟨e2, hne⟩ := wipe_some e2
  have hfr : scope.names.lookup y = some .free /\ (cenv.kindOf y = some .cell \/ cenv.kindOf y = some .free) := by
   have key : ∀ k, cenv.scope.names.lookup y = some k -> k = .local \/ k = .cell \/ k = .free -> scope.names.lookup y = some .free /\ (cenv.kindOf y = some .cell \/ cenv.kindOf y = some .free) := fun k hk hk' => by
    have hk0 := hk
    rw [hsc] at hk
    obtain ⟨k', e, r⟩ := lookup_relS hk
    have no : ¬ (k' = .local \/ k' = .cell) := fun hh => by
     rcases ok.own _ (PySem.mem_of_lookup e) hh with e' | e'
     ·obtain ⟨p, hp, hpy⟩ := List.mem_map.mp e'
      have e3 := ok.ix p hp
      have : p.1 = y := hpy
      rw [this] at e3
      exact hne (List.mem_map.mpr ⟨p, hp, nodup_ix hN e3 e1⟩)
     ·exact e' (List.mem_of_getElem? e1)
    rcases r with rfl | ⟨rfl, rfl⟩
    ·rcases hk' with rfl | rfl | rfl
     ·exact absurd (.inl rfl) no
     ·exact absurd (.inr rfl) no
     ·exact ⟨e, .inr hk0⟩
    ·exact ⟨e, .inl hk0⟩
   have e3 : Vis cenv.scope y := e3
   rcases e3 with e3 | e3 | e3
   ·exact key _ e3 (.inl rfl)
   ·exact key _ e3 (.inr (.inl rfl))
   ·exact key _ e3 (.inr (.inr rfl))
  obtain ⟨m, hn, hl⟩ := I.loc
  have hvis : Vis X.env.scope y := (ok.free _ (PySem.mem_of_lookup hfr.1) rfl).elim (fun k => .inr (.inl k)) (fun k => .inr (.inr k))
  obtain ⟨w, r, q⟩ := hl i y av e1 e2 hvis
  refine ⟨w, r, .inr ⟨hfr.2, ?_⟩⟩
  obtain ⟨c, h1, h2⟩ := look hfr.1
  rcases q with ⟨k, _⟩ | ⟨_, c', e', z⟩
  ·have k : X.env.scope.names.lookup y = some .local := k
   rcases ok.free _ (PySem.mem_of_lookup hfr.1) rfl with k' | k' <;> rw [show X.env.scope.names.lookup y = _ from k'] at k <;> cases k
  ·rw [h2] at e'; cases e'
   exact ⟨c, h1, z.keeps kp⟩
 ·have e : cenv.cells.lookup y = some c := e
  rcases mem e with ⟨h1, _⟩ | ⟨_, z⟩
  ·obtain ⟨w, z⟩ := I.cell y c h1
   exact ⟨w, z.keeps kp⟩
  ·exact ⟨_, z⟩
 ·show H cenv.locals = none
  rw [hL]; exact I.hok.fresh (Nat.le_refl _)
 ·have e : cenv.cells.lookup y = some c := e
  rcases mem e with ⟨h1, _⟩ | ⟨h1, _⟩
  ·exact I.freeC y c h1
  ·exact I.hok.fresh (Nat.le_of_succ_le h1)
 ·exact absurd (show p ∈ ([] : List (Addr × Obj)) ++ [] from hp) (by simp)
theorem app_ok {E : Value -> Shared -> Prop} {D : Addr} {xs : List V} {y : V} {v : Value} {Q : Value -> Shared -> Prop} (I : Inv X pins σ H s) (hD : H D = some (.lst xs)) (hz : xs.length < sizeLine) (r : RelV y v)
  (h : ∀ s', Inv X pins σ (upd H D (.lst (xs ++ [y]))) s' -> Q .none s') : wpAny (model X.prog X.w) X.A (call (.builtin "list.append") [.ref D, v]) Q E s := by
 obtain ⟨hz', its, n, ri, e⟩ := I.hok D _ hD
 have hl := ri.length
 refine append_at (hsz := by rw [List.size_toArray]; omega) e fun h' sb ho' => ?_
 refine h { s with heap := h' } (I.write (t' := s.toks) (by rw [hD]; trivial) (.inl rfl) (fun b u hb q => (sb.2 b hb).trans q) ⟨_, ho'⟩ ⟨by rw [List.length_append]; exact hz, its ++ [v], n + 1, ri.append (.cons r .nil), ?_⟩)
 rw [ho']
 simp
def PTs (X : Cx) (ifs : List Expr) (t : TT) : Prop :=
 ∀ (pins : List (Addr × Obj)) (s : Shared) (σ : St) (H : Hp) (Q : Bool -> Hp -> Prop), Inv X pins σ H s -> t σ H Q ->
  wpAny (model X.prog X.w) X.A (forIn ifs true fun c r => if r = true then do let ok <- isTrue c X.env (eval c X.env); pure (ForInStep.yield ok) else pure (ForInStep.yield r)) (TP X pins σ Q) X.xe s
def tYes : TT := fun _ H Q => Q true H
theorem pts_nil : PTs X [] tYes := fun _ _ _ H _ I h => wpAny_tests_nil ⟨H, I, h⟩
end
theorem thnF {α : Type} {t : Sem α} {Q Q' : α -> Shared -> Prop} {M : Model} {A : Around} {E : Value -> Shared -> Prop} {s : Shared} (h : wpAny M A t Q (fun _ _ => False) s) (hQ : ∀ a s, Q a s -> Q' a s) : wpAny M A t Q' E s := wpAny_mono h hQ fun _ _ z => False.elim z
theorem compLoop_any {prog : Program} {w : World} {A : Around} {R : Result -> Shared -> Prop} {s : Shared} {elt target iter : Expr} {ifs : List Expr} {scope : Scope} {pos : Pos} {it acc : Value} {env : Env} (I : Nat -> Shared -> Prop)
  (turn : ∀ n s, I n s -> wpAny (model prog w) A (pyNext it) (fun r s₁ => match r with
   | none => R (.ok .next) s₁
   | some v => wpAny (model prog w) A (letOwnedTupleGo target it v) (fun _ s₁' => wpAny (model prog w) A (assign target env v) (fun _ s₂ =>
     wpAny (model prog w) A (forIn ifs true fun c r => if r = true then do let ok <- isTrue c env (eval c env); pure (ForInStep.yield ok) else pure (ForInStep.yield r)) (fun ok s₃ =>
      if ok = true then wpAny (model prog w) A (eval elt env) (fun x s₄ =>
       wpAny (model prog w) A (call (.builtin "list.append") [acc, x]) (fun _ s₅ => ∃ m, m < n /\ I m s₅) (notedBy (model prog w) A env fun e s' => R (.error e) s') s₄) (notedBy (model prog w) A env fun e s' => R (.error e) s') s₃
      else ∃ m, m < n /\ I m s₃) (notedBy (model prog w) A env fun e s' => R (.error e) s') s₂) (notedBy (model prog w) A env fun e s' => R (.error e) s') s₁') (notedBy (model prog w) A env fun e s' => R (.error e) s') s₁) (notedBy (model prog w) A env fun e s' => R (.error e) s') s)
  (n : Nat) (h : I n s) :
  codeAny (model prog w) A (.compLoop (.ListComp elt [⟨target, iter, ifs, 0⟩] scope pos) 0 it acc env) R s := by
 refine codeAny_loop rfl I (fun n s hI => ?_) n h
 show wpAny _ A ((compTurn (.ListComp elt [⟨target, iter, ifs, 0⟩] scope pos) 0 it acc env).onRaise (fun x => do noteFrame x env; theTreesLotGoes x)) _ _ s
 refine wpAny_noted ?_
 rw [compTurn_list]
 refine wpAny_bind (wpAny_standAt (wpAny_bind (wpAny_mono (turn n s hI) (fun r s₁ h₁ => ?_) fun _ _ h' => h')))
 cases r with
 | none => exact wpAny_pure h₁
 | some v =>
  refine wpAny_bind (wpAny_mono h₁ (fun _ s₁' h₁' => ?_) fun _ _ h' => h')
  refine wpAny_bind (wpAny_mono h₁' (fun _ s₂ h₂ => wpAny_bind (wpAny_mono h₂ (fun ok s₃ h₃ => ?_) fun _ _ h' => h')) fun _ _ h' => h')
  cases ok with
  | false => exact wpAny_pure ⟨rfl, h₃⟩
  | true =>
   exact wpAny_bind (wpAny_bind (wpAny_mono h₃ (fun x s₄ h₄ => wpAny_bind (wpAny_mono h₄ (fun _ s₅ h₅ => wpAny_pure (wpAny_pure ⟨rfl, h₅⟩)) fun _ _ h' => h')) fun _ _ h' => h'))
section
variable {X : Cx}
def tLc (wi : TI) (g : TG) (tt : TT) (te : TE) (vs : List Nat) : TE := fun σ H Q => wi σ H fun J H1 => ∀ D, H1 D = none -> ∃ W : Nat -> Nat -> Hp -> Prop, (∃ m, W 0 m (upd H1 D (.lst []))) /\ ∀ i m H, W i m H ->
 (J.stop i H /\ Q (.ref D) H) \/ (J.go i H /\ ∃ Nx : Hp -> Prop, (∀ H', Nx H' -> ∃ m', m' < m /\ W (i + 1) m' H') /\ ∀ x H', J.yld i H x H' -> g x (wipe σ vs) H' fun σ2 H2 => wipe σ2 vs = wipe σ vs /\ tt σ2 H2 fun b H3 =>
  if b = true then te σ2 H3 fun y H4 => ∃ acc, H4 D = some (.lst acc) /\ acc.length < sizeLine /\ Nx (upd H4 D (.lst (acc ++ [y]))) else Nx H3)
theorem lc_core {pins : List (Addr × Obj)} {s : Shared} {σ : St} {H : Hp} {Q : VK} {elt tg iter : Expr} {ifs : List Expr} {scope : Scope} {own : List (Str × Nat)} {pos pos' : Pos} {wi : TI} {g : TG} {tt : TT} {te : TE} {use : Option (Value -> Sem Unit)} {Qf : Value -> Shared -> Prop}
  (hc : X.calm = true) (hN : X.N.Nodup) (I : Inv X pins σ H s) (hi : PI X tg iter wi) (ok : BlkOk X.N X.env.scope scope own)
  (hg : ∀ (s : Shared) (H : Hp) (C : Addr) (cl : List (Str × Addr)) (fp : List Addr), PG (X.blk s H scope (compEnvC scope cl C X.env) fp) tg g) (ht : ∀ (s : Shared) (H : Hp) (C : Addr) (cl : List (Str × Addr)) (fp : List Addr), PTs (X.blk s H scope (compEnvC scope cl C X.env) fp) ifs tt)
  (he : ∀ (s : Shared) (H : Hp) (C : Addr) (cl : List (Str × Addr)) (fp : List Addr), PE (X.blk s H scope (compEnvC scope cl C X.env) fp) elt te) (hs : ∀ x, foldedSetIterable iter X.env x = pure x)
  (h : tLc wi g tt te (own.map (·.2)) σ H Q)
  (hRR : ∀ D C s' m H', Inv X pins σ H' s' -> Q (.ref D) H' -> s'.heap.Ns C m -> FpOk X pins H' C -> compPost (model X.prog X.w) X.A X.xe use Qf (.ref D) C (.ok .next) s') :
  wpAny (model X.prog X.w) X.A (comprehension (.ListComp elt [⟨tg, iter, ifs, 0⟩] scope pos) scope X.env pos' (newList []) false (eval iter X.env) use) Qf X.xe s := by
 have hfree : ∀ y ∈ scope.names, y.2 = .free -> ∃ c, X.env.cells.lookup y.1 = some c := fun y hy e => by
  rcases ok.free y hy e with k | k
  ·exact I.ok.has _ (.inl k)
  ·exact I.ok.has _ (.inr k)
 refine wpAny_comprehension_free (use := use) rfl hs (closure_ok hfree) ok.kind (fun y hy e => by rw [ok.uniq y hy, e])
  (thn (hi pins s σ H _ I h) fun xv s1 hx => thn hx fun itv s2 h2 => ?_)
 obtain ⟨it, fp, tn, J, H2, e, I2, T, st2, f2, q⟩ := h2
 subst e
 refine wpAny_newObj_type (newEnv_comp ?_) (by show 0 <= sizeLine; decide)
 generalize hD : s2.heap.objs.size = D
 have hDn : H2 D = none := I2.hok.fresh (Nat.le_of_eq hD)
 obtain ⟨W, ⟨m0, w0⟩, turn⟩ := q D hDn
 generalize hs3 : ({ s2 with heap := s2.heap.push { cls := .type "list", data := .seq ([] : List Value).toArray } } : Shared) = s3
 have I3 : Inv X pins σ (upd H2 D (.lst [])) s3 := by
  rw [<- hs3]
  refine I2.laid (t' := s2.toks) (fun b o e => Heap.get?_push_of_some _ e) (Nat.le_of_eq hD) ⟨Nat.zero_le _, [], 0, .nil, ?_⟩
  rw [<- hD]
  exact Heap.get?_push_size _ rfl
 have h3 : s3.heap = s2.heap.push { cls := .type "list", data := .seq ([] : List Value).toArray } := by rw [<- hs3]
 have sz : ∀ b ∈ fp, b < s2.heap.objs.size := fun b hb => by
  obtain ⟨o, e, _⟩ := T.obj _ _ st2 b hb
  exact Heap.lt_size e
 have f3 : ∀ b ∈ fp, FpOk X pins (upd H2 D (.lst [])) b /\ b < s3.heap.objs.size := fun b hb => by
  have hlt := sz b hb
  refine ⟨⟨?_, (f2 b hb).2⟩, by rw [h3, Heap.size_push]; exact Nat.lt_succ_of_lt hlt⟩
  rw [upd_ne (by rw [<- hD]; exact Nat.ne_of_lt hlt)]
  exact (f2 b hb).1
 have st3 : tn 0 s3.heap := T.keep _ _ _ st2 fun b _ o e => by rw [h3]; exact Heap.get?_push_of_some _ e
 have I4 := block_start I3 ok hN f3
 have pg := hg s3 (upd H2 D (.lst [])) s3.heap.objs.size (cellsFrom (s3.heap.objs.size + 1) scope.names (cloFrom X.env.cells scope.names [])) fp
 have pt := ht s3 (upd H2 D (.lst [])) s3.heap.objs.size (cellsFrom (s3.heap.objs.size + 1) scope.names (cloFrom X.env.cells scope.names [])) fp
 have pe := he s3 (upd H2 D (.lst [])) s3.heap.objs.size (cellsFrom (s3.heap.objs.size + 1) scope.names (cloFrom X.env.cells scope.names [])) fp
 show codeAny _ _ (.compStart (.ListComp elt [⟨tg, iter, ifs, 0⟩] scope pos) 0 (.ref it) (.ref D) (compEnvC scope (cellsFrom (s3.heap.objs.size + 1) scope.names (cloFrom X.env.cells scope.names [])) s3.heap.objs.size X.env)) (compPost (model X.prog X.w) X.A X.xe use Qf (.ref D) s3.heap.objs.size) { s3 with heap := pushCells (s3.heap.push { cls := .type "dict", data := .dict #[] }) scope.names }
 have nfp : ∀ b ∈ fp, (upd H2 D (.lst [])) b = none := fun b hb => (f3 b hb).1.1
 generalize hce : compEnvC scope (cellsFrom (s3.heap.objs.size + 1) scope.names (cloFrom X.env.cells scope.names [])) s3.heap.objs.size X.env = ce at I4 pg pt pe ⊢
 have cL : ce.locals = s3.heap.objs.size := by subst hce; rfl
 generalize hH3 : upd H2 D (.lst []) = H3 at I3 I4 pg pt pe w0 nfp f3
 generalize hs4 : ({ s3 with heap := pushCells (s3.heap.push { cls := .type "dict", data := .dict #[] }) scope.names } : Shared) = s4 at I4 ⊢
 have st4 : tn 0 s4.heap := T.keep _ _ _ st3 fun b _ o e => by rw [<- hs4]; exact pushCells_keeps _ _ _ _ (Heap.get?_push_of_some _ e)
 have stat : ∀ {σ' : St} {H' : Hp} {s' : Shared}, Inv (X.blk s3 H3 scope ce fp) [] σ' H' s' -> (∀ b ∈ fp, H' b = none) -> ∀ b ∈ fp, FpOk (X.blk s3 H3 scope ce fp) [] H' b := fun {σ' H' s'} I' hn b hb =>
  ⟨hn b hb, (I'.ok.exf b hb).1, I'.ok.exfs b hb, .inl hb, fun x c e => (I'.ok.exf b hb).2 x c e, fun p hp => absurd (show p ∈ ([] : List (Addr × Obj)) ++ [] from hp) (by simp)⟩
 have loop : codeAny (model X.prog X.w) X.A (.compLoop (.ListComp elt [⟨tg, iter, ifs, 0⟩] scope pos) 0 (.ref it) (.ref D) ce) (compPost (model X.prog X.w) X.A X.xe use Qf (.ref D) s3.heap.objs.size) s4 := by
  refine compLoop_any (fun n s' => ∃ i H', Inv (X.blk s3 H3 scope ce fp) [] (wipe σ (own.map (·.2))) H' s' /\ tn i s'.heap /\ (∀ b ∈ fp, H' b = none) /\ W i n H') ?_ m0 ⟨0, H3, I4, st4, nfp, w0⟩
  rintro n s5 ⟨i, H5, I5, st5, n5, w5⟩
  rcases turn i n H5 w5 with ⟨stop, qq⟩ | ⟨go, Nx, hNx, step⟩
  ·have td := T.done (X.blk s3 H3 scope ce fp) rfl rfl rfl hc i [] s5 _ H5 (fun _ _ => False) I5 (stat I5 n5) st5 stop
   refine thnF td fun r s6 ⟨hr, I6⟩ => ?_
   subst hr
   have I7 : Inv X pins σ H5 s6 := I3.call' (ch := fp) I6.os I6.base I6.hok I6.bare fun b hb => ⟨(f3 b hb).1.2.2.2.1, (f3 b hb).1.2.1, (f3 b hb).1.2.2.2.2.1, (f3 b hb).1.2.2.2.2.2⟩
   have nC : H5 s3.heap.objs.size = none := by
    have z : H5 ce.locals = none := I6.free
    rw [cL] at z
    exact z
   obtain ⟨m, hn, _⟩ := I6.loc
   have hn : s6.heap.Ns ce.locals m := hn
   rw [cL] at hn
   exact hRR D s3.heap.objs.size s6 m H5 I7 qq hn (I3.fpOk (Nat.le_refl _) nC)
  ·have ti := T.item (X.blk s3 H3 scope ce fp) rfl rfl rfl hc i [] s5 _ H5 (fun _ _ => False) I5 (stat I5 n5) st5 go
   refine thnF ti fun r s6 ⟨u, hr, h6⟩ => ?_
   subst hr
   refine thnF h6 fun _ s7 ⟨x, H7, I7, r7, y7, st7, n7⟩ => ?_
   have I7' := I7.pinned (stat I7 n7) (T.obj _ _ st7)
   refine thnF (pg _ s7 _ H7 x u _ I7' r7 (step x H7 y7)) fun _ s8 ⟨σ8, H8, I8, hw8, q8⟩ => ?_
   refine thnF (pt _ s8 σ8 H8 _ I8 q8) fun b s9 ⟨H9, I9, q9⟩ => ?_
   have fin : ∀ {s' : Shared} {H' : Hp}, Inv (X.blk s3 H3 scope ce fp) ([] ++ pinsAt fp s7.heap) σ8 H' s' -> Nx H' -> ∃ m, m < n /\ ∃ i H', Inv (X.blk s3 H3 scope ce fp) [] (wipe σ (own.map (·.2))) H' s' /\ tn i s'.heap /\ (∀ b ∈ fp, H' b = none) /\ W i m H' := fun {s' H'} I' nx => by
    obtain ⟨m', hm, w'⟩ := hNx H' nx
    have pin' : ∀ b ∈ fp, ∀ o, s7.heap.get? b = some o -> s'.heap.get? b = some o /\ H' b = none := fun b hb o e =>
     let z := I'.pin (b, o) (List.mem_append_right _ (List.mem_append_right _ (mem_pinsAt hb e)))
     ⟨z.1, z.2.1⟩
    have hl : (wipe σ (own.map (·.2))).length = σ8.length := by rw [<- hw8, wipe_length]
    refine ⟨m', hm, i + 1, H', (I'.unpinned (pins := [])).weak hl (fun j v e => ?_), T.keep _ _ _ st7 fun b hb o e => (pin' b hb o e).1, fun b hb => ?_, w'⟩
    ·rw [<- hw8] at e
     exact (wipe_some e).1
    ·obtain ⟨o, e, _⟩ := T.obj _ _ st7 b hb
     exact (pin' b hb o e).2
   cases b with
   | false =>
    simp only [Bool.false_eq_true, if_false] at q9 ⊢
    exact fin I9 q9
   | true =>
    simp only [if_true] at q9 ⊢
    refine thnF (pe _ s9 σ8 H9 _ I9 q9) fun z s10 ⟨yv, H10, I10, r10, acc, hD10, hz10, nx⟩ => ?_
    exact app_ok (X := X.blk s3 H3 scope ce fp) I10 hD10 hz10 r10 fun s11 I11 => fin I11 nx
 exact codeAny_compStart_list loop (T.self X.A 0 _ _ _ st4 loop)
theorem pe_lc {elt tg iter : Expr} {ifs : List Expr} {scope : Scope} {own : List (Str × Nat)} {pos : Pos} {wi : TI} {g : TG} {tt : TT} {te : TE} (hc : X.calm = true) (hN : X.N.Nodup) (hi : PI X tg iter wi) (ok : BlkOk X.N X.env.scope scope own)
  (hg : ∀ (s : Shared) (H : Hp) (C : Addr) (cl : List (Str × Addr)) (fp : List Addr), PG (X.blk s H scope (compEnvC scope cl C X.env) fp) tg g) (ht : ∀ (s : Shared) (H : Hp) (C : Addr) (cl : List (Str × Addr)) (fp : List Addr), PTs (X.blk s H scope (compEnvC scope cl C X.env) fp) ifs tt)
  (he : ∀ (s : Shared) (H : Hp) (C : Addr) (cl : List (Str × Addr)) (fp : List Addr), PE (X.blk s H scope (compEnvC scope cl C X.env) fp) elt te) (hs : ∀ x, foldedSetIterable iter X.env x = pure x := by intro _; rfl) :
  PE X (.ListComp elt [⟨tg, iter, ifs, 0⟩] scope pos) (tLc wi g tt te (own.map (·.2))) := by
 intro pins s σ H Q I h
 rw [eval_ListComp]
 refine lc_core hc hN I hi ok hg ht he hs h fun D C s' m H' I' q hn f => ⟨m, hn, fun h'' sb => ?_⟩
 obtain ⟨f0, f1, f2, f3, f4, f5⟩ := f
 exact ⟨.ref D, H', I'.turned (t' := s'.toks) (fun b o hb e => (sb.2 b hb).trans e) f0 f1 f3 f4 f5, rfl, q⟩
end
theorem lc_list {K : PySem.W.Frag} {a : Addr} {xs : List V} {g : TG} {tt : TT} {te : TE} {vs : List Nat} {σ : St} {H1 : Hp} {D : Addr} {Qd : Hp -> Prop} (Pv : Nat -> Hp -> Prop) (h0 : Pv 0 (upd H1 D (.lst []))) (hl : ∀ i H, i <= xs.length -> Pv i H -> SqL K H a xs)
  (hs : ∀ i x H, xs[i]? = some x -> Pv i H -> g x (wipe σ vs) H fun σ2 H2 => wipe σ2 vs = wipe σ vs /\ tt σ2 H2 fun b H3 =>
   if b = true then te σ2 H3 fun y H4 => ∃ acc, H4 D = some (.lst acc) /\ acc.length < sizeLine /\ Pv (i + 1) (upd H4 D (.lst (acc ++ [y]))) else Pv (i + 1) H3) (hd : ∀ H, Pv xs.length H -> Qd H) :
  ∃ W : Nat -> Nat -> Hp -> Prop, (∃ m, W 0 m (upd H1 D (.lst []))) /\ ∀ i m H, W i m H ->
   ((Itl K a).stop i H /\ Qd H) \/ ((Itl K a).go i H /\ ∃ Nx : Hp -> Prop, (∀ H', Nx H' -> ∃ m', m' < m /\ W (i + 1) m' H') /\ ∀ x H', (Itl K a).yld i H x H' -> g x (wipe σ vs) H' fun σ2 H2 => wipe σ2 vs = wipe σ vs /\ tt σ2 H2 fun b H3 =>
    if b = true then te σ2 H3 fun y H4 => ∃ acc, H4 D = some (.lst acc) /\ acc.length < sizeLine /\ Nx (upd H4 D (.lst (acc ++ [y]))) else Nx H3) := by
 refine ⟨fun i m H => m = xs.length - i /\ i <= xs.length /\ Pv i H, ⟨xs.length, by simp, Nat.zero_le _, h0⟩, ?_⟩
 rintro i m H ⟨rfl, hi, p⟩
 have q := hl i H hi p
 by_cases hlt : i < xs.length
 ·refine .inr ⟨⟨xs, xs[i], q, by simp [hlt]⟩, Pv (i + 1), fun H' p' => ⟨xs.length - (i + 1), by omega, rfl, hlt, p'⟩, fun x H' y => ?_⟩
  obtain ⟨e, y⟩ := y
  subst e
  exact hs i x _ (y xs q) p
 ·have e : i = xs.length := by omega
  subst e
  exact .inl ⟨⟨xs, q, Nat.le_refl _⟩, hd H p⟩
def blkC (N : List Str) (sc scope : Scope) (own : List (Str × Nat)) : Bool :=
 (match scope.kind with | .function => true | _ => false) && (scope.names.all fun y => decide (scope.names.lookup y.1 = some y.2)) && (own.all fun p => decide (N[p.2]? = some p.1)) &&
  (scope.names.all fun y => match y.2 with
   | .free => (match sc.names.lookup y.1 with | some .cell => true | some .free => true | _ => false)
   | .local => decide (y.1 ∈ own.map (·.1)) || decide (y.1 ∉ N)
   | .cell => decide (y.1 ∈ own.map (·.1)) || decide (y.1 ∉ N)
   | _ => true)
theorem blkOk_by {N : List Str} {sc scope : Scope} {own : List (Str × Nat)} (h : blkC N sc scope own = true) : BlkOk N sc scope own := by
 unfold blkC at h
 simp only [Bool.and_eq_true, List.all_eq_true, decide_eq_true_eq] at h
 obtain ⟨⟨⟨h1, h2⟩, h3⟩, h4⟩ := h
 refine ⟨?_, h2, h3, fun y hy e => ?_, fun y hy e => ?_⟩
 ·split at h1
  ·assumption
  ·cases h1
 ·have q := h4 y hy
  simp only [e] at q
  split at q <;> first | exact .inl (by assumption) | exact .inr (by assumption) | cases q
 ·have q := h4 y hy
  rcases e with e | e <;> (simp only [e, Bool.or_eq_true, decide_eq_true_eq] at q; exact q)
end L2
namespace L2
open PySem PySem.Spec PyProof.Rows
section
variable {κ : Type} [DecidableEq κ]
def valV (kvs : List (κ × V)) (k : κ) : Option V := (kvs.find? fun kv => decide (kv.1 = k)).map (·.2)
def putK (kvs : List (κ × V)) (k : κ) (v : V) : List (κ × V) :=
 if (kvs.any fun kv => decide (kv.1 = k)) = true then kvs.map (fun kv => if kv.1 = k then (kv.1, v) else kv) else kvs ++ [(k, v)]
theorem valV_pos {p : κ × V} {r : List (κ × V)} {k : κ} (e : p.1 = k) : valV (p :: r) k = some p.2 := by simp [valV, List.find?_cons, e]
theorem valV_neg {p : κ × V} {r : List (κ × V)} {k : κ} (e : ¬ p.1 = k) : valV (p :: r) k = valV r k := by simp [valV, List.find?_cons, e]
theorem valV_any (k : κ) : ∀ kvs : List (κ × V), (kvs.any fun kv => decide (kv.1 = k)) = (valV kvs k).isSome
 | [] => rfl
 | p :: r => by
  rw [List.any_cons]
  by_cases e : p.1 = k
  ·simp only [valV_pos e, decide_eq_true e, Bool.true_or, Option.isSome_some]
  ·rw [valV_neg e, decide_eq_false e, Bool.false_or]; exact valV_any k r
theorem valV_map (k j : κ) (y : V) : ∀ kvs : List (κ × V), valV (kvs.map fun kv => if kv.1 = k then (kv.1, y) else kv) j = (valV kvs j).map fun x => if j = k then y else x
 | [] => rfl
 | p :: r => by
  have ih := valV_map k j y r
  rw [List.map_cons]
  by_cases h : p.1 = k
  ·rw [if_pos h]
   by_cases e : p.1 = j
   ·rw [valV_pos (p := (p.1, y)) e, valV_pos e, Option.map_some, if_pos (e.symm.trans h)]
   ·rw [valV_neg (p := (p.1, y)) e, valV_neg e, ih]
  ·rw [if_neg h]
   by_cases e : p.1 = j
   ·rw [valV_pos (p := p) e, valV_pos e, Option.map_some, if_neg (fun z => h (e.trans z))]
   ·rw [valV_neg (p := p) e, valV_neg e, ih]
theorem valV_snoc (k j : κ) (y : V) : ∀ kvs : List (κ × V), valV kvs k = none -> valV (kvs ++ [(k, y)]) j = if j = k then some y else valV kvs j
 | [], _ => by
  by_cases e : k = j
  ·rw [if_pos e.symm]; exact valV_pos (p := (k, y)) e
  ·rw [if_neg (fun z => e z.symm)]; exact valV_neg (p := (k, y)) e
 | p :: r, hn => by
  rw [List.cons_append]
  have hk : ¬ p.1 = k := fun z => by rw [valV_pos z] at hn; cases hn
  rw [valV_neg hk] at hn
  have ih := valV_snoc k j y r hn
  by_cases e : p.1 = j
  ·rw [valV_pos e, valV_pos e, if_neg (fun z => hk (e.trans z))]
  ·rw [valV_neg e, valV_neg e, ih]
theorem valV_put (kvs : List (κ × V)) (k j : κ) (y : V) : valV (putK kvs k y) j = if j = k then some y else valV kvs j := by
 unfold putK
 by_cases a : (kvs.any fun kv => decide (kv.1 = k)) = true
 ·rw [if_pos a, valV_map]
  rw [valV_any] at a
  by_cases e : j = k
  ·obtain ⟨x, hx⟩ := Option.isSome_iff_exists.mp a
   rw [if_pos e, e, hx, Option.map_some, if_pos rfl]
  ·rw [if_neg e]
   cases valV kvs j with
   | none => rfl
   | some x => rw [Option.map_some, if_neg e]
 ·rw [if_neg a]
  refine valV_snoc k j y kvs ?_
  rw [valV_any] at a
  cases q : valV kvs k with
  | none => rfl
  | some x => rw [q] at a; exact (a rfl).elim
theorem length_putK (kvs : List (κ × V)) (k : κ) (v : V) : (putK kvs k v).length <= kvs.length + 1 := by
 unfold putK
 split
 ·rw [List.length_map]; omega
 ·rw [List.length_append, List.length_cons, List.length_nil]; omega
theorem putK_new {kvs : List (κ × V)} {k : κ} (v : V) (h : valV kvs k = none) : putK kvs k v = kvs ++ [(k, v)] := by
 unfold putK
 rw [valV_any, h]
 exact if_neg (by decide)
theorem RelO.isSome_eq {o : Option V} {u : Option Value} (r : RelO o u) : o.isSome = u.isSome := by
 cases o with
 | none => cases u with
  | none => rfl
  | some _ => exact (show False from r).elim
 | some _ => cases u with
  | none => exact (show False from r).elim
  | some _ => rfl
theorem KV.val {kvs : List (κ × V)} {vs : List (κ × Value)} (r : KV kvs vs) (k : κ) : RelO (valV kvs k) (valueAt vs k) := by
 unfold KV at r
 induction r with
 | nil => exact True.intro
 | @cons p q ps qs h t ih =>
  obtain ⟨h1, h2⟩ := h
  by_cases e : p.1 = k
  ·have e' : q.1 = k := h1.symm.trans e
   have b : valueAt (q :: qs) k = some q.2 := by simp [valueAt, List.find?_cons, e']
   rw [valV_pos e, b]; exact h2
  ·have e' : ¬ q.1 = k := fun z => e (h1.trans z)
   have b : valueAt (q :: qs) k = valueAt qs k := by simp [valueAt, List.find?_cons, e']
   rw [valV_neg e, b]; exact ih
theorem KV.any {kvs : List (κ × V)} {vs : List (κ × Value)} (r : KV kvs vs) (k : κ) : (kvs.any fun kv => decide (kv.1 = k)) = vs.any fun kv => decide (kv.1 = k) := by
 unfold KV at r
 induction r with
 | nil => rfl
 | cons h t ih => rw [List.any_cons, List.any_cons, ih, h.1]
theorem KV.repl {kvs : List (κ × V)} {vs : List (κ × Value)} (r : KV kvs vs) (k : κ) {y : V} {u : Value} (ry : RelV y u) :
  KV (kvs.map fun kv => if kv.1 = k then (kv.1, y) else kv) (vs.map fun kv => if kv.1 = k then (kv.1, u) else kv) := by
 unfold KV at r ⊢
 induction r with
 | nil => exact .nil
 | @cons p q ps qs h t ih =>
  rw [List.map_cons, List.map_cons]
  refine .cons ?_ ih
  obtain ⟨h1, h2⟩ := h
  by_cases e : p.1 = k
  ·rw [if_pos e, if_pos (h1.symm.trans e)]; exact ⟨h1, ry⟩
  ·rw [if_neg e, if_neg (fun z => e (h1.trans z))]; exact ⟨h1, h2⟩
theorem KV.put {kvs : List (κ × V)} {vs : List (κ × Value)} (r : KV kvs vs) (k : κ) {y : V} {u : Value} (ry : RelV y u) : KV (putK kvs k y) (stored vs k u) := by
 unfold putK stored
 rw [r.any k]
 by_cases e : (vs.any fun kv => decide (kv.1 = k)) = true
 ·rw [if_pos e, if_pos e]; exact r.repl k ry
 ·rw [if_neg e, if_neg e]; exact Paired.snoc r ⟨rfl, ry⟩
theorem KV.length {kvs : List (κ × V)} {vs : List (κ × Value)} (r : KV kvs vs) : kvs.length = vs.length := Paired.length r
end
theorem kV_is {P : Program} {w : World} {k : Key} {u : Value} (r : RelV (kV k) u) : (mixKind P w).is k u = true := by
 cases k with
 | inl i => obtain ⟨t, e⟩ := (show ∃ t, u = Value.int i t from r); subst e; exact mixKind_int P w i t
 | inr x => obtain ⟨t, e⟩ := (show ∃ t, u = Value.str x t from r); subst e; exact mixKind_str P w x t
theorem items_are {P : Program} {w : World} : ∀ {ks : List Key} {us : List Value}, Vals (ks.map kV) us -> ItemsAre (mixKind P w) ks us
 | [], _, r => by rw [List.map_nil] at r; cases r; exact .nil
 | k :: ks, _, r => by
  rw [List.map_cons] at r
  cases r with
  | cons h t => exact .cons (kV_is h) (items_are t)
abbrev KT (H : Hp) : List (List Key × V) -> List (List Key × Addr × Value) -> Prop := Paired fun p q => p.1 = q.1 /\ H q.2.1 = some (.tup (p.1.map kV)) /\ RelV p.2 q.2.2
theorem KT.val {H : Hp} {kvs : List (List Key × V)} {xs : List (List Key × Addr × Value)} (r : KT H kvs xs) (k : List Key) : RelO (valV kvs k) ((atKey xs k).map (·.2)) := by
 induction r with
 | nil => exact True.intro
 | @cons p q ps qs h t ih =>
  obtain ⟨h1, _, h2⟩ := h
  by_cases e : p.1 = k
  ·have e' : q.1 = k := h1.symm.trans e
   have b : atKey (q :: qs) k = some q.2 := by simp [atKey, List.find?_cons, e']
   rw [valV_pos e, b]; exact h2
  ·have e' : ¬ q.1 = k := fun z => e (h1.trans z)
   have b : atKey (q :: qs) k = atKey qs k := by simp [atKey, List.find?_cons, e']
   rw [valV_neg e, b]; exact ih
theorem KT.repl {H : Hp} {kvs : List (List Key × V)} {xs : List (List Key × Addr × Value)} (r : KT H kvs xs) (k : List Key) {y : V} {u : Value} (ry : RelV y u) :
  KT H (kvs.map fun kv => if kv.1 = k then (kv.1, y) else kv) (xs.map (putAt k u)) := by
 induction r with
 | nil => exact .nil
 | @cons p q ps qs h t ih =>
  rw [List.map_cons, List.map_cons]
  refine .cons ?_ ih
  obtain ⟨h1, h2, h3⟩ := h
  unfold putAt
  by_cases e : p.1 = k
  ·rw [if_pos e, if_pos (h1.symm.trans e)]; exact ⟨h1, h2, ry⟩
  ·rw [if_neg e, if_neg (fun z => e (h1.trans z))]; exact ⟨h1, h2, h3⟩
theorem KT.put {H : Hp} {kvs : List (List Key × V)} {xs : List (List Key × Addr × Value)} (r : KT H kvs xs) (k : List Key) {b : Addr} {y : V} {u : Value} (hb : H b = some (.tup (k.map kV))) (ry : RelV y u) :
  KT H (putK kvs k y) (storedH xs k b u) := by
 have e : (kvs.any fun kv => decide (kv.1 = k)) = (atKey xs k).isSome := by
  rw [valV_any, (r.val k).isSome_eq, Option.isSome_map]
 unfold putK storedH
 rw [e]
 by_cases q : (atKey xs k).isSome = true
 ·rw [if_pos q, if_pos q]; exact r.repl k ry
 ·rw [if_neg q, if_neg q]; exact Paired.snoc r ⟨rfl, hb, ry⟩
theorem KT.keeps {H H' : Hp} {kvs : List (List Key × V)} {xs : List (List Key × Addr × Value)} (r : KT H kvs xs) (ht : ∀ b ys, H b = some (.tup ys) -> H' b = some (.tup ys)) : KT H' kvs xs :=
 Paired.mapP r fun _ _ z => ⟨z.1, ht _ _ z.2.1, z.2.2⟩
section
variable {P : Program} {w : World} {H : Hp} {h : Heap} {a : Addr}
theorem rd_of {u : HO} (ok : HOk P w H h) (e : Rd H a u) : ObjOk P w H h a u := e.ok ok
theorem dk_rd {kvs : List (Key × V)} (ok : HOk P w H h) (e : Rd H a (.dK kvs)) : kvs.length <= sizeLine /\ (a == sysModules) = false /\ ∃ vs, KV kvs vs /\ h.DictOf (mixKind P w) a vs :=
 show ObjOk P w H h a (.dK kvs) from rd_of ok e
theorem dk_of {kvs : List (Key × V)} (ok : HOk P w H h) (e : H a = some (.dK kvs)) : kvs.length <= sizeLine /\ (a == sysModules) = false /\ ∃ vs, KV kvs vs /\ h.DictOf (mixKind P w) a vs := dk_rd ok (.inl e)
theorem key_of {ks : List Key} (ok : HOk P w H h) (e : H a = some (.tup (ks.map kV))) : (tupleKind (mixKind P w)).is h ks a := by
 obtain ⟨_, its, r, o, h1, h2, n, h3, _⟩ := (show ObjOk P w H h a (.tup (ks.map kV)) from ok a _ e)
 exact ⟨o, its.toArray, n, h1, h2, h3, by simpa using items_are r⟩
theorem dt_rd {kvs : List (List Key × V)} (ok : HOk P w H h) (e : Rd H a (.dT kvs)) : kvs.length <= sizeLine /\ (a == sysModules) = false /\
  ∃ xs, KT H kvs xs /\ h.DictOfH (tupleKind (mixKind P w)) a xs := by
 obtain ⟨z, y, xs, r, o, es, ep, h1, h2, h3, h4, h5⟩ := (show ObjOk P w H h a (.dT kvs) from rd_of ok e)
 refine ⟨z, y, xs, r, o, es, ep, h1, h2, h3, h4, fun x hx => ?_, h5⟩
 have all : ∀ {l : List (List Key × V)} {m : List (List Key × Addr × Value)}, KT H l m -> ∀ x ∈ m, (tupleKind (mixKind P w)).is h x.1 x.2.1 := by
  intro l m q
  induction q with
  | nil => intro x hx; exact nomatch hx
  | @cons p q ps qs hq t ih =>
   intro x hx
   rcases List.mem_cons.mp hx with e | hx
   ·subst e
    exact key_of ok (by rw [<- hq.1]; exact hq.2.1)
   ·exact ih x hx
 exact all r x hx
theorem dt_of {kvs : List (List Key × V)} (ok : HOk P w H h) (e : H a = some (.dT kvs)) : kvs.length <= sizeLine /\ (a == sysModules) = false /\
  ∃ xs, KT H kvs xs /\ h.DictOfH (tupleKind (mixKind P w)) a xs := dt_rd ok (.inl e)
end
def DGet (H : Hp) (a : Addr) (y : V) (r : Option V) : Prop :=
 (∃ kvs k, Rd H a (.dK kvs) /\ y = kV k /\ r = valV kvs k) \/ ∃ kvs k b, Rd H a (.dT kvs) /\ y = .ref b /\ H b = some (.tup (k.map kV)) /\ r = valV kvs k
def DPut (H : Hp) (a : Addr) (y v : V) (H' : Hp) : Prop :=
 (∃ kvs k, H a = some (.dK kvs) /\ y = kV k /\ kvs.length < sizeLine /\ H' = upd H a (.dK (putK kvs k v))) \/
 ∃ kvs k b, H a = some (.dT kvs) /\ y = .ref b /\ H b = some (.tup (k.map kV)) /\ kvs.length < sizeLine /\ H' = upd H a (.dT (putK kvs k v))
theorem DGet.k {H : Hp} {a : Addr} {kvs : List (Key × V)} {k : Key} (e : H a = some (.dK kvs)) : DGet H a (kV k) (valV kvs k) := .inl ⟨kvs, k, .inl e, rfl, rfl⟩
theorem DGet.t {H : Hp} {a b : Addr} {kvs : List (List Key × V)} {k : List Key} (e : H a = some (.dT kvs)) (eb : H b = some (.tup (k.map kV))) : DGet H a (.ref b) (valV kvs k) := .inr ⟨kvs, k, b, .inl e, rfl, eb, rfl⟩
theorem DPut.k {H : Hp} {a : Addr} {kvs : List (Key × V)} {k : Key} {v : V} (e : H a = some (.dK kvs)) (hl : kvs.length < sizeLine) : DPut H a (kV k) v (upd H a (.dK (putK kvs k v))) := .inl ⟨kvs, k, e, rfl, hl, rfl⟩
theorem DPut.t {H : Hp} {a b : Addr} {kvs : List (List Key × V)} {k : List Key} {v : V} (e : H a = some (.dT kvs)) (eb : H b = some (.tup (k.map kV))) (hl : kvs.length < sizeLine) :
  DPut H a (.ref b) v (upd H a (.dT (putK kvs k v))) := .inr ⟨kvs, k, b, e, rfl, eb, hl, rfl⟩
section
variable {X : Cx} {pins : List (Addr × Obj)} {σ : St} {H : Hp} {s : Shared} {a : Addr} {y v : V} {u r : Value} {o : Option V} {A : Around} {E : Value -> Shared -> Prop}
theorem Inv.big (I : Inv X pins σ H s) : sysModules < s.heap.objs.size := by
 have h : mainGlobals < s.heap.objs.size := (I.mod.glob.keeps I.bk).lt
 exact Nat.lt_trans (by decide) h
theorem d_getItem {Q : Value -> Shared -> Prop} (hu : A.units + 1 < cLine) (I : Inv X pins σ H s) (g : DGet H a y (some v)) (ry : RelV y u) (h : ∀ w' s', Inv X pins σ H s' -> RelV v w' -> Q w' s') :
  wpAny (model X.prog X.w) A (getItem (.ref a) u) Q E s := by
 rcases g with ⟨kvs, k, e, ey, l⟩ | ⟨kvs, k, b, e, ey, eb, l⟩
 ·subst ey
  obtain ⟨z, hd, vs, rel, dd⟩ := dk_rd I.hok e
  obtain ⟨w', hw, rw'⟩ := RelO.some_of (v := v) (o := valueAt vs k) (by rw [l]; exact rel.val k)
  exact wpAny_getItem_of (kV_is ry) dd.mapOf hw (h w' _ (I.tok _) rw')
 ·subst ey
  cases (show u = Value.ref b from ry)
  obtain ⟨z, hd, xs, rel, dd⟩ := dt_rd I.hok e
  obtain ⟨w', hw, rw'⟩ := RelO.some_of (v := v) (o := (atKey xs k).map (·.2)) (by rw [l]; exact rel.val k)
  obtain ⟨p, hp, hp2⟩ := Option.map_eq_some_iff.mp hw
  refine wpAny_getItem_heap (tupleKind_room_in1 hu) (key_of I.hok eb) dd hp ?_
  rw [hp2]
  exact h w' _ (I.tok _) rw'
theorem d_notIn {Q : Value -> Shared -> Prop} (hu : A.units + 1 < cLine) (I : Inv X pins σ H s) (g : DGet H a y o) (ry : RelV y u) (h : ∀ s', Inv X pins σ H s' -> Q (.bool (!o.isSome)) s') :
  wpAny (model X.prog X.w) A (compareOp .NotIn u (.ref a)) Q E s := by
 rcases g with ⟨kvs, k, e, ey, l⟩ | ⟨kvs, k, b, e, ey, eb, l⟩
 ·subst ey
  obtain ⟨z, hd, vs, rel, dd⟩ := dk_rd I.hok e
  refine wpAny_notIn_of (kV_is ry) hd dd.mapOf ?_
  rw [<- (rel.val k).isSome_eq, <- l]
  exact h _ (I.tok _)
 ·subst ey
  cases (show u = Value.ref b from ry)
  obtain ⟨z, hd, xs, rel, dd⟩ := dt_rd I.hok e
  refine wpAny_notIn_heap (tupleKind_room_in1 hu) (key_of I.hok eb) hd dd ?_
  have q := (rel.val k).isSome_eq
  rw [Option.isSome_map] at q
  rw [<- q, <- l]
  exact h _ (I.tok _)
theorem d_write {h' : Heap} {t' : Nat} {ob : HO} (I : Inv X pins σ H s) (mu : Mut (H a)) (hs : Heap.SameBut a s.heap h') (he : ∃ q, h'.get? a = some q) (new : ObjOk X.prog X.w (upd H a ob) h' a ob) :
  Inv X pins σ (upd H a ob) { s with heap := h', toks := t' } :=
 I.write (x := a) (e := a) mu (.inl rfl) (fun b q hb z => (hs.2 b hb).trans z) he new
theorem dk_new {P : Program} {w : World} {H' : Hp} {h' : Heap} {kvs : List (Key × V)} {vs : List (Key × Value)} (z : kvs.length <= sizeLine) (hd : (a == sysModules) = false) (rel : KV kvs vs) (dd : h'.DictOf (mixKind P w) a vs) :
  ObjOk P w H' h' a (.dK kvs) := ⟨z, hd, vs, rel, dd⟩
theorem d_setItem {H' : Hp} {Q : Unit -> Shared -> Prop} (hu : A.units + 1 < cLine) (I : Inv X pins σ H s) (g : DPut H a y v H') (ry : RelV y u) (rv : RelV v r) (h : ∀ s', Inv X pins σ H' s' -> Q () s') :
  wpAny (model X.prog X.w) A (setItem (.ref a) u r) Q E s := by
 rcases g with ⟨kvs, k, e, ey, l, eH⟩ | ⟨kvs, k, b, e, ey, eb, l, eH⟩
 ·subst ey eH
  obtain ⟨z, hd, vs, rel, dd⟩ := dk_of I.hok e
  have hz : vs.length <= sizeLine := by rw [<- rel.length]; exact z
  have hl : (putK kvs k v).length <= sizeLine := by have := length_putK kvs k v; omega
  refine wpAny_setItem_pairs (hsz := hz) (kV_is ry) dd fun h' dd' hs => h _ ?_
  have he : ∃ q, h'.get? a = some q := let ⟨q, _, _, hq, _⟩ := dd'; ⟨q, hq⟩
  exact d_write I (by rw [e]; exact True.intro) hs he (dk_new hl hd (rel.put k rv) dd')
 ·subst ey eH
  cases (show u = Value.ref b from ry)
  obtain ⟨z, hd, xs, rel, dd⟩ := dt_of I.hok e
  have hz : xs.length <= sizeLine := by rw [<- Paired.length rel]; exact z
  have hl : (putK kvs k v).length <= sizeLine := by have := length_putK kvs k v; omega
  refine wpAny_setItem_heap (hsz := hz) (tupleKind_room_in1 hu) (key_of I.hok eb) dd fun h' dd' hs => h _ ?_
  obtain ⟨q, es, ep, hq, h2, h3, h4, _, h5⟩ := dd'
  refine d_write I (by rw [e]; exact True.intro) hs ⟨q, hq⟩ ⟨hl, hd, _, (rel.put k eb rv).keeps fun c ys ec => ?_, q, es, ep, hq, h2, h3, h4, h5⟩
  rw [upd_ne (ne_of ec e (fun z => nomatch z))]
  exact ec
end
def NoSl (i : Expr) : Prop := ∀ ov iv, subscripted i false ov iv = operate [ov, iv] (getItem ov iv)
theorem subD_of {prog : Program} {w : World} {A : Around} {E : Value -> Shared -> Prop} {s : Shared} {env : Env} {value slice : Expr} {pos : Pos} {T id : String} {Q : Value -> Shared -> Prop}
  (hl : typeLookup (.type T) "__getitem__" = pure (some (.builtin id))) (hs : NoSl slice)
  (h : wpAny (model prog w) A (eval value env) (fun o s₁ => wpAny (model prog w) A (eval slice env) (fun i s₂ => s₂.TypeIs o T /\ wpAny (model prog w) A (getItem o i) Q E s₂) E s₁) E s) :
  wpAny (model prog w) A (eval (.Subscript value slice pos) env) Q E s := by
 refine Subscript_ (wpAny_mono h (fun o s₁ h₁ => wpAny_mono h₁ (fun i s₂ h₂ => ?_) fun _ _ x => x) fun _ _ x => x)
 obtain ⟨hT, h₂⟩ := h₂
 unfold subscriptTail
 refine wpAny_bind ?_
 rw [getitemInPython_of_ne hT.not_modules]
 refine wpAny_bind (wpAny_specialOf hT hl ?_)
 have fin : wpAny (model prog w) A (subscripted slice false o i) (fun r s₃ => wpAny (model prog w) A (letTemporaryGo value o r >>= fun _ => pure r) Q E s₃) E s₂ := by
  rw [hs o i]
  exact wpAny_operating (wpAny_mono h₂ (fun r s₃ h₃ => wpAny_bind (wpAny_letTemporaryGo (wpAny_pure h₃))) fun _ _ x => x)
 first
  | exact wpAny_pure (wpAny_bind fin)
  | exact wpAny_bind (wpAny_pure (wpAny_bind fin))
  | exact wpAny_bind fin
theorem dict_typeIs {X : Cx} {pins : List (Addr × Obj)} {σ : St} {H : Hp} {s : Shared} {a : Addr} {y : V} {o : Option V} (I : Inv X pins σ H s) (g : DGet H a y o) : s.TypeIs (.ref a) "dict" := by
 rcases g with ⟨kvs, k, e, _, _⟩ | ⟨kvs, k, b, e, _, _, _⟩
 ·obtain ⟨_, _, vs, _, dd⟩ := dk_rd I.hok e
  exact dd.typeIs
 ·obtain ⟨_, _, xs, _, dd⟩ := dt_rd I.hok e
  exact dd.typeIs
def tDGet (td ty : TE) : TE := fun σ H Q => td σ H fun x H1 => ty σ H1 fun y H2 => ∃ a v, x = .ref a /\ DGet H2 a y (some v) /\ Q v H2
def tDNotIn (ty td : TE) : TE := fun σ H Q => ty σ H fun y H1 => td σ H1 fun x H2 => ∃ a o, x = .ref a /\ DGet H2 a y o /\ Q (.bl (!o.isSome)) H2
def sDPut (td ty tv : TE) : TS := fun D σ H => tv σ H fun v H1 => td σ H1 fun x H2 => ty σ H2 fun y H3 => ∃ a H4, x = .ref a /\ DPut H3 a y v H4 /\ D.nx σ H4
section
variable {X : Cx} {o i e value : Expr} {pos pos' tpos : Pos} {td ty tv : TE}
theorem pe_dget (hu : X.A.units + 1 < cLine) (ho : PE X o td) (hi : PE X i ty) (hs : NoSl i) : PE X (.Subscript o i pos) (tDGet td ty) := by
 intro pins s σ H Q I h
 refine subD_of PySem.F.slot_dict_getitem.lookup hs (thn (ho pins s σ H _ I h) fun u s1 ⟨x, H1, I1, rx, q1⟩ => thn (hi pins s1 σ H1 _ I1 q1) fun iv s2 ⟨y, H2, I2, ry, a, v, ex, g, q2⟩ => ?_)
 subst ex
 obtain rfl : u = Value.ref a := rx
 exact ⟨dict_typeIs I2 g, d_getItem hu I2 g ry fun w' s3 I3 rw' => ⟨v, H2, I3, rw', q2⟩⟩
theorem pc_dnotin (hu : X.A.units + 1 < cLine) (hi : PE X i ty) (ho : PE X o td) : PC X .NotIn i o (tDNotIn ty td) := by
 intro pins s σ H Q I h
 refine thn (hi pins s σ H _ I h) fun iv s1 ⟨y, H1, I1, ry, q1⟩ => thn (ho pins s1 σ H1 _ I1 q1) fun u s2 ⟨x, H2, I2, rx, a, ov, ex, g, q2⟩ => ?_
 subst ex
 obtain rfl : u = Value.ref a := rx
 exact d_notIn hu I2 g ry fun s3 I3 => ⟨.bl (!ov.isSome), H2, I3, rfl, q2⟩
theorem ps_dput (hu : X.A.units + 1 < cLine) (ho : PE X o td) (hi : PE X i ty) (hv : PE X value tv) (hs : swapsWith value (some (.Subscript o i pos')) pos.line X.env = pure false) :
  PS X (.Assign [.Subscript o i pos'] value pos) (sDPut td ty tv) := by
 intro pins s σ H D I h
 refine wpAny_Assign_Subscript (thn (hv pins s σ H _ I h) fun r s1 ⟨v, H1, I1, rv, q1⟩ => thn (ho pins s1 σ H1 _ I1 q1) fun u s2 ⟨x, H2, I2, rx, q2⟩ => thn (hi pins s2 σ H2 _ I2 q2) fun iv s3 ⟨y, H3, I3, ry, a, H4, ex, g, q3⟩ => ?_) hs
 subst ex
 obtain rfl : u = Value.ref a := rx
 exact d_setItem hu I3 g ry rv fun s4 I4 => ⟨σ, H4, I4, q3⟩
end
theorem dk_empty {P : Program} {w : World} {H : Hp} (h : Heap) (hb : sysModules < h.objs.size) : ObjOk P w H (h.push { cls := .type "dict", data := .dict #[] }) h.objs.size (.dK []) :=
 ⟨Nat.zero_le _, beq_eq_false_iff_ne.mpr (Ne.symm (Nat.ne_of_lt hb)), [], .nil, Heap.DictOf.new h⟩
theorem dt_empty {P : Program} {w : World} {H : Hp} (h : Heap) (hb : sysModules < h.objs.size) : ObjOk P w H (h.push { cls := .type "dict", data := .dict #[] }) h.objs.size (.dT []) :=
 ⟨Nat.zero_le _, beq_eq_false_iff_ne.mpr (Ne.symm (Nat.ne_of_lt hb)), [], .nil, _, #[], 0, Heap.get?_push_size _ rfl, ⟨rfl, rfl, rfl⟩, rfl, rfl, List.nodup_nil⟩
def tDNewK : TE := fun _ H Q => ∀ p, H p = none -> Q (.ref p) (upd H p (.dK []))
def tDNewT : TE := fun _ H Q => ∀ p, H p = none -> Q (.ref p) (upd H p (.dT []))
section
variable {X : Cx} {pos : Pos}
theorem pe_dnewK : PE X (.Dict [] [] pos) tDNewK := fun pins s σ H Q I h =>
 wpAny_Dict_empty ⟨.ref s.heap.objs.size, _, I.laid (a := s.heap.objs.size) (o := .dK []) (t' := s.toks) (fun _ _ q => Heap.get?_push_of_some _ q) (Nat.le_refl _) (dk_empty s.heap I.big), rfl, h _ (I.hok.fresh (Nat.le_refl _))⟩
theorem pe_dnewT : PE X (.Dict [] [] pos) tDNewT := fun pins s σ H Q I h =>
 wpAny_Dict_empty ⟨.ref s.heap.objs.size, _, I.laid (a := s.heap.objs.size) (o := .dT []) (t' := s.toks) (fun _ _ q => Heap.get?_push_of_some _ q) (Nat.le_refl _) (dt_empty s.heap I.big), rfl, h _ (I.hok.fresh (Nat.le_refl _))⟩
end
end L2
namespace L2
open PySem PySem.Spec PyProof.Rows
theorem list_keys_none : typeLookup (.type "list") "keys" = pure none := am_miss_of_fast (by first | decide +kernel | rfl)
theorem ud_entry : entryFor table "dict.update.loop" = some Builtin.«dict.update.loop» := entryFor_of_tree (by kernel_rfl)
theorem ud_plain : plainId "dict.update.loop" = true := by decide +kernel
section
variable {prog : Program} {w : World} {A : Around} {E : Value -> Shared -> Prop}
theorem miss_list {s : Shared} {a : Addr} {o : Obj} {xs : Array Value} {k : Nat} {Q : Option Value -> Shared -> Prop} (hx : s.heap.get? a = some o) (hc : o.cls = .type "list") (hdat : o.data = .seq xs k) (hd : o.dict = none) (hA : A.handled = none)
  (h : ∀ h' tk, (∀ b ob, s.heap.get? b = some ob -> h'.get? b = some ob) -> Q none { s with heap := h', toks := tk }) : wpAny (model prog w) A (getAttr? (.ref a) "keys") Q E s := by
 obtain ⟨c, dct, dat, sl⟩ := o
 simp only at hc hdat hd
 subst hc hdat hd
 obtain ⟨hp, g, d, tk, os⟩ := s
 have hT : ∀ tk', (⟨hp, g, d, tk', os⟩ : Shared).TypeIs (.ref a) "list" := fun _ => ⟨_, hx, rfl⟩
 have hmiss := list_keys_none
 have hname : (["__module__", "__name__", "__qualname__", "__doc__", "__annotations__"] : List Str).contains "keys" = false := by decide +kernel
 have hsz : ("keys" : Str).length + 100 <= sizeLine := by first | size_fits | decide +kernel
 have f1 := sub_AttributeError
 have f3 := PySem.F.slot_list_getattribute.lookup
 have f4 := PySem.F.slot_list_getattribute.bind (.ref a)
 have f5 := am_list_getattr_none
 unfold getAttr? getAttrBy? getAttrBy
 repeat (any_goals (first | assumption | exact hT _ | ((with_reducible show wpAny _ _ (call (Value.builtin "list.__getattribute__") _ _) _ _ _); refine call_meets PySem.F.slot_list_getattribute (hT _) am_entry_list_getattribute (PySem.F.args_list_getattribute_2 _ _) (meets_getattribute_miss_list a xs k sl "keys" _ hmiss hname hsz) ⟨hx, hA, fun h' tk' e hx' => ?_⟩) | wp_step))
 obtain ⟨t', u', he⟩ := hx'.there
 show wpAny _ _ (getattributeRaised _ _ _ _ _ _ _) _ _ _
 unfold getattributeRaised
 repeat (any_goals (first | assumption | wp_step))
 all_goals first | exact h _ _ hx'.keeps | (dsimp only; repeat (any_goals (first | assumption | exact h _ _ hx'.keeps | wp_step)))
end
section
variable {X : Cx}
theorem refs_at : ∀ {ps : List Addr} {us : List Value}, Vals (ps.map V.ref) us -> us = ps.map Value.ref
 | [], us, r => by
  rw [List.map_nil] at r
  cases r
  rfl
 | p :: ps, us, r => by
  rw [List.map_cons] at r
  cases r with
  | cons h t =>
   cases h
   rw [List.map_cons, <- refs_at t]
end
end L2
namespace L2
open PySem PySem.Spec PyProof.Rows
section
variable {X : Cx}
theorem pi_one {tg : Expr} {pins : List (Addr × Obj)} {σ : St} {H : Hp} {s : Shared} {R : It -> Hp -> Prop} {J : It} {tn : Nat -> Heap -> Prop} {tk : Nat} (I : Inv X pins σ H s) (o : Obj)
  (T : Turn X.prog X.w X.K tg J [s.heap.objs.size] s.heap.objs.size tn) (st : tn 0 (s.heap.push o)) (q : R J H) : PIE X pins σ tg R (.ref s.heap.objs.size) { s with heap := s.heap.push o, toks := tk } := by
 refine ⟨s.heap.objs.size, [s.heap.objs.size], tn, J, H, rfl, I.kept fun b ob e => Heap.get?_push_of_some _ e, T, st, fun b hb => ?_, q⟩
 have e : b = s.heap.objs.size := by simpa using hb
 subst e
 exact I.fpOk (Nat.le_refl _) (I.hok.fresh (Nat.le_refl _))
end
def Itc (lo c : Int) (n : Nat) : It := ⟨fun i _ => i < n, fun i H x H' => H' = H /\ x = .int (lo + (i : Nat) * c), fun i _ => n <= i⟩
theorem turn_rangeC {P : Program} {w : World} {K : PySem.W.Frag} {tg : Expr} (it : Addr) (lo c : Int) (n : Nat) : Turn P w K tg (Itc lo c n) [it] it (fun i h => IsRangeIter h it (lo + (i : Nat) * c) ((n : Int) - (i : Nat)) c) where
 mem := by simp
 obj := fun i h st b hb => by
  have e : b = it := by simpa using hb
  subst e
  exact ⟨_, st, fun v z => nomatch z⟩
 keep := fun i h h' st k => k it (by simp) _ st
 item := by
  intro X hP hw hK hc i pins s σ H E I hf st hg
  subst hP hw hK
  obtain ⟨f0, f1, f2, f3, f4, f5⟩ := hf it (by simp)
  have W := Walks.range (prog := X.prog) (w := X.w) (I.ok.hd hc) it lo c n
  refine W.item i s _ _ hg st fun v h' tk hv st' kk => ?_
  obtain ⟨t, rfl⟩ := hv
  have I1 : Inv X pins σ H { s with heap := h', toks := tk } := I.turned (fun b o hb e => kk b o (by simpa using hb) e) f0 f1 f3 f4 f5
  exact ⟨_, rfl, go_of (s := { s with heap := h', toks := tk }) (n := "range_iterator") st' rfl rfl (by decide) ⟨.int (lo + (i : Nat) * c), H, I1, ⟨t, rfl⟩, ⟨rfl, rfl⟩, st', fun b hb => (hf b hb).1⟩⟩
 done := by
  intro X hP hw hK hc i pins s σ H E I hf st hg
  subst hP hw hK
  obtain ⟨f0, f1, f2, f3, f4, f5⟩ := hf it (by simp)
  exact wpAny_pyNext_range_end (I.ok.hd hc) st (by have : n <= i := hg; omega) fun h' eb => ⟨rfl, I.turned (t' := s.toks) (fun b o hb e => eb b o hb e) f0 f1 f3 f4 f5⟩
 self := fun A i s Q E st h => wpAny_pyIter_rangeiter st h
def RgC (i j c : Int) (n : Nat) : Prop := c ≠ 0 /\ c.natAbs < 1073741824 /\ Builtin.Range.small i j c = true /\ Builtin.Range.rangeSize i j c = n
theorem RgC.neg {i j : Int} (ha : -(2 ^ 62) <= i) (ha' : i < 2 ^ 62) (hb : -(2 ^ 62) <= j) (hb' : j < 2 ^ 62) : RgC i j (-1) (i - j).toNat :=
 ⟨by decide, by decide, PySem.W.small_down ha ha' hb hb', PySem.W.rangeSize_downNat i j⟩
def iRng3 (ta : TA) : TI := fun σ H R => ta σ H fun vs H1 => ∃ (i j c : Int) (n : Nat), vs = [.int i, .int j, .int c] /\ RgC i j c n /\ R (Itc i c n) H1
section
variable {X : Cx} {tg : Expr}
theorem pi_range3 {a b c : Expr} {ta : TA} {p pos : Pos} (hg : Gl X "range") (hm : X.mg "range" = none) (ha : PA X [a, b, c] ta)
  (hs : starEach [a, b, c] X.env = (false, eval a X.env) :: starEach [b, c] X.env := by rfl) (hpl : (backTo pos (starEach [b, c] X.env)).any (·.1) = false := by rfl) :
  PI X tg (.Call (.Name "range" p) [a, b, c] [] pos) (iRng3 ta) := by
 intro pins s σ H R I h
 refine Call_ (ld_blt I hg hm boot_range (PyProof.Rows.callWith_type1 (thn (ha pos pins s σ H _ I h) fun us s1 ⟨vs, H1, I1, r1, q1⟩ => ?_) hs hpl))
 obtain ⟨i, j, k, n, e, ⟨c0, c1, c2, c3⟩, q⟩ := q1
 subst e
 cases r1 with
 | cons r rr =>
  cases rr with
  | cons r' rr =>
   cases rr with
   | cons r'' rr =>
    cases rr
    obtain ⟨t, rfl⟩ := r
    obtain ⟨t', rfl⟩ := r'
    obtain ⟨t'', rfl⟩ := r''
    refine call_range_3 c0 ?_ (.inl (PyProof.noPylong_small c1))
    refine wpAny_pyIter_range (IsRange.new ..) c2 ?_
    have I2 : Inv X pins σ H1 { s1 with heap := s1.heap.push { cls := .type "range", data := .fields #[.int i t, .int j t', .int k t''] } } := I1.kept (t' := s1.toks) fun b o e => Heap.get?_push_of_some _ e
    refine pi_one (tk := s1.toks) I2 _ (turn_rangeC _ i k n) ?_ q
    have e1 : i + ((0 : Nat) : Int) * k = i := by simp
    have e2 : (n : Int) - ((0 : Nat) : Int) = Builtin.Range.rangeSize i j k := by rw [c3]; simp
    show IsRangeIter _ _ (i + ((0 : Nat) : Int) * k) ((n : Int) - ((0 : Nat) : Int)) k
    rw [e1, e2]
    exact Heap.get?_push_size _ rfl
end
theorem for_rangeC {lo c : Int} {n : Nat} {g : TG} {tb : TS} {D : Ends} {σ : St} {H : Hp} (Pv : Nat -> St -> Hp -> Prop) (h0 : Pv 0 σ H)
  (hs : ∀ i σ H, i < n -> Pv i σ H -> g (.int (lo + (i : Nat) * c)) σ H fun σ2 H2 => tb { D with nx := Pv (i + 1), ct := Pv (i + 1), bk := D.nx } σ2 H2) (hd : ∀ σ H, Pv n σ H -> D.nx σ H) :
  ∃ W : Nat -> Nat -> St -> Hp -> Prop, (∃ m, W 0 m σ H) /\ ∀ i m σ H, W i m σ H ->
   ((Itc lo c n).stop i H /\ D.nx σ H) \/ ((Itc lo c n).go i H /\ ∃ N : St -> Hp -> Prop, (∀ σ' H', N σ' H' -> ∃ m', m' < m /\ W (i + 1) m' σ' H') /\ ∀ x H', (Itc lo c n).yld i H x H' -> g x σ H' fun σ2 H2 => tb { D with nx := N, ct := N, bk := D.nx } σ2 H2) := by
 refine ⟨fun i m σ H => m = n - i /\ i <= n /\ Pv i σ H, ⟨n, by simp, Nat.zero_le _, h0⟩, ?_⟩
 rintro i m σ H ⟨rfl, hi, p⟩
 by_cases hlt : i < n
 ·refine .inr ⟨hlt, Pv (i + 1), fun σ' H' p' => ⟨n - (i + 1), by omega, rfl, hlt, p'⟩, fun x H' y => ?_⟩
  obtain ⟨e, y⟩ := y
  subst e y
  exact hs i σ _ hlt p
 ·have e : i = n := by omega
  subst e
  exact .inl ⟨Nat.le_refl _, hd σ H p⟩
section
variable {prog : Program} {w : World} {A : Around} {E : Value -> Shared -> Prop} {s : Shared}
theorem iter_keys {d : Addr} {o : Obj} {es : Array DictEntry} {ep : Nat} {Q : Value -> Shared -> Prop} (hd : (d == sysModules) = false) (ho : s.heap.get? d = some o) (hc : o.ExactDict) (hdat : o.data = .dict es ep)
  (hQ : Q (.ref s.heap.objs.size) { s with heap := s.heap.push { cls := .type "dict_keyiterator", data := .fields #[.ref d, .int 0 0, .int es.size 0, .int ep 0] } }) :
  wpAny (model prog w) A (pyIter (.ref d)) Q E s := by
 have hT : s.TypeIs (.ref d) "dict" := ⟨o, ho, hc.1⟩
 refine wpAny_pyIter_slot hT F.slot_dict_iter (wpAny_call_entry F.slot_dict_iter hT F.entry_dict_iter ?_ (F.args_dict_iter_1 _))
 unfold Builtin.«dict.__iter__»
 refine wpAny_bind ?_
 unfold Builtin.Dict.dictSlotNone
 refine wpAny_bind (wpAny_notOrdered_dict hT ?_)
 show wpAny _ _ (pure (Value.ref d)) _ _ s
 refine wpAny_pure ?_
 show wpAny _ _ (Builtin.Dict.showsAll d >>= _) _ _ s
 unfold Builtin.Dict.showsAll
 rw [if_neg (by rw [hd]; exact Bool.false_ne_true)]
 refine wpAny_bind (wpAny_pure ?_)
 refine wpAny_bind (wpAny_dictEntries ho hdat ?_)
 refine wpAny_bind (wpAny_dictEpoch ho hdat ?_)
 refine wpAny_bind (wpAny_newObj_type (wpAny_pure ⟨_, rfl, "dict_keyiterator", _, ⟨_, Heap.get?_push_size _ rfl, rfl⟩, F.slot_dict_keyiterator_next.lookup, ?_⟩))
 simpa [rawInt] using hQ
theorem next_key_item {it d : Addr} {i n ep : Nat} {od : Obj} {es : Array DictEntry} {en : DictEntry} {Q : Option Value -> Shared -> Prop} (hit : s.heap.IsKeyIter it d i n ep) (hod : s.heap.get? d = some od) (hdd : od.data = .dict es ep)
  (hsz : es.size = n) (hx : es[i]? = some en) (hQ : ∀ h', h'.IsKeyIter it d (i + 1) n ep -> Heap.SameBut it s.heap h' -> Q (some en.key) { s with heap := h' }) : wpAny (model prog w) A (pyNext (.ref it)) Q E s := by
 obtain ⟨o, ho, hc, hd⟩ := id hit
 unfold pyNext
 refine wpAny_bind (wpAny_attempt (wpAny_callSpecial?_slot (name := Str.ofString "__next__") hit.typeIs F.slot_dict_keyiterator_next
  (wpAny_call_entry F.slot_dict_keyiterator_next hit.typeIs F.entry_dict_keyiterator_next ?_ (F.args_dict_keyiterator_next_1 _))))
 refine wpAny_bind (wpAny_pure ?_)
 refine wpAny_bind ?_
 refine wpAny_bind ?_
 first | refine wpAny_bind (wpAny_typeNameOfWhole_keyiter hit.typeIs (wpAny_pure ?_)) | refine wpAny_bind (wpAny_typeNameOf_keyiter hit.typeIs (wpAny_pure ?_))
 refine wpAny_bind (wpAny_fieldsOf ho hd ?_)
 have hown : Builtin.Dict_items.ownsTuple "dict_keyiterator" = false := by decide
 simp only [hown, Bool.false_eq_true, if_false]
 show wpAny _ _ (if (Value.ref d == Value.none) = true then _ else _) _ _ s
 rw [if_neg (show ¬ ((Value.ref d == Value.none) = true) from Bool.false_ne_true)]
 refine wpAny_bind (wpAny_pure ?_)
 refine wpAny_bind (wpAny_dictEntries hod hdd ?_)
 rw [if_neg (by rw [hsz]; simp)]
 refine wpAny_bind (wpAny_pure ?_)
 refine wpAny_bind (wpAny_dictEpoch hod hdd ?_)
 rw [if_neg (by simp)]
 refine wpAny_pure ?_
 obtain ⟨hlt', hen⟩ := Array.getElem?_eq_some_iff.mp hx
 simp only [show ¬ ((i : Int) < 0) from by omega, if_false, Int.toNat_natCast, Array.getElem?_eq_getElem hlt']
 refine wpAny_bind ?_
 first | refine wpAny_bind (wpAny_typeNameOfWhole_keyiter hit.typeIs (wpAny_pure ?_)) | refine wpAny_bind (wpAny_typeNameOf_keyiter hit.typeIs (wpAny_pure ?_))
 refine wpAny_bind (wpAny_isOneOf_keyiter hit.typeIs ?_)
 show wpAny _ _ (setField (.ref it) 1 (rawInt ((i : Int) + 1)) >>= _) _ _ s
 refine wpAny_bind (wpAny_setField ho hd (by simp) ?_)
 have hit' : (s.heap.update it (Obj.mapFields (·.setIfInBounds 1 (rawInt ((i : Int) + 1))))).IsKeyIter it d (i + 1) n ep :=
  ⟨_, Heap.get?_update_self _ ho (Obj.isFreed_of_fields (Obj.data_mapFields hd _)), (Obj.cls_mapFields ..).trans hc, by rw [Obj.data_mapFields hd]; simp [rawInt]⟩
 refine wpAny_bind (wpAny_holding ?_)
 refine wpAny_bind (wpAny_isOneOf_keyiter (s := { s with heap := s.heap.update it (Obj.mapFields (·.setIfInBounds 1 (rawInt ((i : Int) + 1)))) }) hit'.typeIs ?_)
 show wpAny _ _ (pure es[i].key) _ _ _
 rw [hen]
 exact wpAny_pure (wpAny_pure ⟨_, rfl, wpAny_pure (hQ _ hit' (Heap.SameBut.update ..))⟩)
theorem next_key_end {it d : Addr} {i n ep : Nat} {od : Obj} {es : Array DictEntry} {Q : Option Value -> Shared -> Prop} (hh : A.handled = none) (hit : s.heap.IsKeyIter it d i n ep) (hod : s.heap.get? d = some od) (hdd : od.data = .dict es ep)
  (hsz : es.size = n) (hge : n <= i) (hQ : ∀ h', Heap.ExtBut it s.heap h' -> Q none { s with heap := h' }) : wpAny (model prog w) A (pyNext (.ref it)) Q E s := by
 obtain ⟨o, ho, hc, hd⟩ := id hit
 unfold pyNext
 refine wpAny_bind (wpAny_attempt (wpAny_callSpecial?_slot (name := Str.ofString "__next__") hit.typeIs F.slot_dict_keyiterator_next
  (wpAny_call_entry F.slot_dict_keyiterator_next hit.typeIs F.entry_dict_keyiterator_next ?_ (F.args_dict_keyiterator_next_1 _))))
 refine wpAny_bind (wpAny_pure ?_)
 refine wpAny_bind ?_
 refine wpAny_bind ?_
 first | refine wpAny_bind (wpAny_typeNameOfWhole_keyiter hit.typeIs (wpAny_pure ?_)) | refine wpAny_bind (wpAny_typeNameOf_keyiter hit.typeIs (wpAny_pure ?_))
 refine wpAny_bind (wpAny_fieldsOf ho hd ?_)
 have hown : Builtin.Dict_items.ownsTuple "dict_keyiterator" = false := by decide
 simp only [hown, Bool.false_eq_true, if_false]
 show wpAny _ _ (if (Value.ref d == Value.none) = true then _ else _) _ _ s
 rw [if_neg (show ¬ ((Value.ref d == Value.none) = true) from Bool.false_ne_true)]
 refine wpAny_bind (wpAny_pure ?_)
 refine wpAny_bind (wpAny_dictEntries hod hdd ?_)
 rw [if_neg (by rw [hsz]; simp)]
 refine wpAny_bind (wpAny_pure ?_)
 refine wpAny_bind (wpAny_dictEpoch hod hdd ?_)
 rw [if_neg (by simp)]
 refine wpAny_pure ?_
 have hge' : es.size <= i := by rw [hsz]; exact hge
 simp only [show ¬ ((i : Int) < 0) from by omega, if_false, Int.toNat_natCast, Array.getElem?_eq_none hge']
 refine wpAny_bind ?_
 first | refine wpAny_bind (wpAny_typeNameOfWhole_keyiter hit.typeIs (wpAny_pure ?_)) | refine wpAny_bind (wpAny_typeNameOf_keyiter hit.typeIs (wpAny_pure ?_))
 show wpAny _ _ (setField (.ref it) 0 .none >>= _) _ _ s
 refine wpAny_bind (wpAny_setField ho hd (by simp) ?_)
 show wpAny _ _ (newExc (.type "StopIteration") [] >>= _) _ _ _
 refine wpAny_bind ?_
 simp only [newExc, newTuple]
 refine wpAny_bind (wpAny_newObj_type ?_ (by size_fits))
 refine wpAny_bind (m := firstArgMember _ _) (wpAny_of_eq (a := Value.none) (by first | rfl | (simp only [firstArgMember]; rfl)) ?_)
 refine wpAny_newObj_type ?_ (by size_fits)
 simp only [raiseNew]
 refine wpAny_bind (wpAny_handled ?_)
 rw [show A.in1.handled = none from hh]
 refine wpAny_bind (wpAny_pure (wpAny_throw ?_))
 refine wpAny_bind (wpAny_isInstance (T := "StopIteration") (b := true) ⟨_, Heap.get?_push_size _ rfl, rfl⟩ isSubtype_stop ?_)
 exact wpAny_pure (hQ _ (((Heap.SameBut.update ..).extBut.push _).push _))
end
end L2
namespace Att
open PySem PySem.W PySem.Calls PyProof.Rows
theorem ints_of_wellAll {P : Params} {h : Heap} : ∀ (ns : List Int) (vs : List Value), WellAll P h vs (ns.map WData.int) -> IntsAre vs ns := by
 intro ns
 induction ns with
 | nil =>
  intro vs w
  rw [List.map_nil] at w
  cases w
  exact .nil
 | cons n ns ih =>
  intro vs w
  rw [List.map_cons] at w
  cases w with
  | cons a b =>
   cases a
   exact .cons _ _ (ih _ b)
end Att
namespace L2
open PySem PySem.Spec PyProof.Rows
theorem vals_ints : ∀ {vs : List Value} {ns : List Int}, IntsAre vs ns -> Vals (ns.map V.int) vs
 | _, _, .nil => .nil
 | _, _, .cons n t h => .cons ⟨t, rfl⟩ (vals_ints h)
end L2
namespace L2
open PySem PySem.Spec PyProof.Rows
def inClass (s : Stmt) (j : Nat) : Stmt := match s with
 | .ClassDef _ _ _ body _ _ _ _ _ _ _ => body.getD j (.Pass ⟨0, 0, 0, 0⟩)
 | _ => .Pass ⟨0, 0, 0, 0⟩
def defArgs (s : Stmt) : Arguments := match s with
 | .FunctionDef _ a _ _ _ _ _ _ _ _ => a
 | _ => { posonlyargs := [], args := [], vararg := none, kwonlyargs := [], kw_defaults := [], kwarg := none, defaults := [] }
def defBody (s : Stmt) : List Stmt := match s with
 | .FunctionDef _ _ b _ _ _ _ _ _ _ => b
 | _ => []
def defScope (s : Stmt) : Scope := match s with
 | .FunctionDef _ _ _ _ _ _ sc _ _ _ => sc
 | _ => { kind := .function, names := [], isGenerator := false, isCoroutine := false }
abbrev CX0 : CXT := fun _ _ _ _ _ _ => False
abbrev E0 : XK := fun _ _ _ => False
theorem pass0 {X : Cx} : Passes CX0 X E0 := fun _ _ _ _ _ _ _ h => h.elim
structure Fun (K : PySem.W.Frag) (x qual : Str) (st : Stmt) (f : Addr) (fd : FuncData) : Prop where
 ex : ∃ (oc : Value) (od : Option Addr) (kV doc pm : Value) (an : Option Addr) (cdv ct : Value) (osl : Array (Option Value)),
  fd = PySem.W.fnOf x qual (defArgs st) (defBody st) (defScope st) .none kV doc pm an cdv ct /\ K.lookup f = some ⟨oc, od, .func fd, osl⟩ /\ PySem.W.codeIn K cdv qual = true
 kp : PySem.W.keepIn K (.ref f) = true
section
variable {P : Program} {w : World} {K : PySem.W.Frag} {mg : Str -> Option Value} {base : Heap}
theorem Fun.ok {x qual : Str} {st : Stmt} {f : Addr} {fd : FuncData} {N ps : List Str} {k : Nat} {sp : Sp} (F : Fun K x qual st f fd) (S : FnScope N ps (defScope st)) (len : ∀ vs H Q E, sp vs H Q E -> vs.length = ps.length)
  (hbody : ∀ (cdv : Value) (A : Around) (outer : List Env) (s : Shared) (H : Hp) (vs : List V) (Q : VK) (E : XK), Room k (A.deeper (envOfC qual (defScope st) s.heap.objs.size f cdv)) -> sp vs H Q E ->
   ∃ t, PSs (cxOf CX0 P w K mg base N qual (defScope st) f cdv A outer s H E).nox (defBody st) t /\ t { nx := fun _ H' => Q .non H', rt := Q } (start N vs) H) : FnOk P w K mg base CX0 (k + 1) f fd ps sp := by
 obtain ⟨oc, od, kV, doc, pm, an, cdv, ct, osl, rfl, lk, hcd⟩ := F.ex
 refine fn_of lk hcd S len fun A outer s H vs Q E hr hsp => ?_
 obtain ⟨t, h, q⟩ := hbody cdv A outer s H vs Q E hr hsp
 exact ⟨t, h.nox, q⟩
theorem Fun.binds {x qual : Str} {st : Stmt} {f : Addr} {fd : FuncData} {ps : List Str} (F : Fun K x qual st f fd)
  (h : ∀ (kV doc pm : Value) (an : Option Addr) (cdv ct : Value) (us : List Value), us.length = ps.length -> bindArgs (PySem.W.fnOf x qual (defArgs st) (defBody st) (defScope st) .none kV doc pm an cdv ct) ⟨us, []⟩ = pure (ps.zip us)) : Binds K fd ps [] := by
 obtain ⟨oc, od, kV, doc, pm, an, cdv, ct, osl, rfl, lk, hcd⟩ := F.ex
 exact .all (h kV doc pm an cdv ct)
theorem fun_mk {x qual : Str} {st : Stmt} {f : Addr} {oc : Value} {od an : Option Addr} {osl : Array (Option Value)} {kV doc pm cdv ct : Value} (l : K.lookup f = some ⟨oc, od, .func (PySem.W.fnOf x qual (defArgs st) (defBody st) (defScope st) .none kV doc pm an cdv ct), osl⟩)
  (c : PySem.W.codeIn K cdv qual = true) (k : PySem.W.keepIn K (.ref f) = true) : Fun K x qual st f (PySem.W.fnOf x qual (defArgs st) (defBody st) (defScope st) .none kV doc pm an cdv ct) := ⟨⟨oc, od, kV, doc, pm, an, cdv, ct, osl, rfl, l, c⟩, k⟩
end
theorem hu_of {A : Around} {k : Nat} (hr : Room k A) : A.units + 1 < cLine := Nat.lt_of_le_of_lt (Nat.add_le_add_left (by decide : 1 <= 64) _) hr.units
section
variable {X : Cx}
theorem pv (i : Nat) {x : Str} {pos : Pos} (hN : X.N[i]? = some x := by rfl) (hv : Vis X.env.scope x := by first | exact Or.inl rfl | exact Or.inr (Or.inl rfl) | exact Or.inr (Or.inr rfl)) (hd : (x == ("__debug__" : Str)) = false := by decide)
  (hcd : (x == ("__classdict__" : Str)) = false := by decide) : PE X (.Name x pos) (tVar i) := pe_var hN hv hd hcd
end
theorem iteF {A B : Prop} (h : B) : if false = true then A else B := by
 rw [if_neg Bool.false_ne_true]
 exact h
theorem iteT {A B : Prop} (h : A) : if true = true then A else B := by
 rw [if_pos rfl]
 exact h
theorem ite2 {c A B : Prop} [Decidable c] (h1 : c -> A) (h2 : ¬ c -> B) : if c then A else B := by
 by_cases h : c
 ·rw [if_pos h]
  exact h1 h
 ·rw [if_neg h]
  exact h2 h
def Same (H H' : Hp) : Prop := ∀ b o, H b = some o -> H' b = some o
theorem Same.refl (H : Hp) : Same H H := fun _ _ h => h
theorem Same.trans {H H1 H2 : Hp} (a : Same H H1) (b : Same H1 H2) : Same H H2 := fun c o h => b c o (a c o h)
theorem Same.free {H H' : Hp} (e : Same H H') {l : Addr} (h : H' l = Option.none) : H l = Option.none := by
 cases q : H l with
 | none => rfl
 | some o =>
  rw [e l o q] at h
  cases h
theorem Same.seq {K : PySem.W.Frag} {H H' : Hp} {a : Addr} {xs : List V} (e : Same H H') (h : SqL K H a xs) : SqL K H' a xs := by
 rcases h with (h | ⟨o, h⟩) | h
 ·exact .inl (.inl (e _ _ h))
 ·exact .inl (.inr ⟨o, e _ _ h⟩)
 ·exact .inr h
section
variable {κ : Type} [DecidableEq κ]
theorem valV_not {kvs : List (κ × V)} {k : κ} (h : valV kvs k = none) : ¬ k ∈ kvs.map (·.1) := by
 intro m
 obtain ⟨p, hp, e⟩ := List.mem_map.mp m
 have q : (kvs.any fun kv => decide (kv.1 = k)) = true := List.any_eq_true.mpr ⟨p, hp, decide_eq_true e⟩
 rw [valV_any, h] at q
 exact absurd q (by simp)
theorem nd_snoc : ∀ {l : List κ} {k : κ}, l.Nodup -> ¬ k ∈ l -> (l ++ [k]).Nodup
 | [], k, _, _ => by simp
 | a :: r, k, h, hk => by
  obtain ⟨h1, h2⟩ := List.nodup_cons.mp h
  show (a :: (r ++ [k])).Nodup
  refine List.nodup_cons.mpr ⟨fun m => ?_, nd_snoc h2 fun m => hk (List.mem_cons.mpr (Or.inr m))⟩
  rcases List.mem_append.mp m with q | q
  ·exact h1 q
  ·exact hk (List.mem_cons.mpr (Or.inl (List.mem_singleton.mp q).symm))
theorem nd_putK {kvs : List (κ × V)} {k : κ} (v : V) (hn : (kvs.map (·.1)).Nodup) (h : valV kvs k = none) : ((putK kvs k v).map (·.1)).Nodup := by
 rw [putK_new v h, List.map_append]
 exact nd_snoc hn (valV_not h)
end
theorem at_of {xs : List V} {z : Int} {j : Nat} {v : V} (e : z = (j : Int)) (h : xs[j]? = some v) : atI xs z = some v := by
 rw [e]
 exact atI_nat h
theorem Same.made {H H1 : Hp} {x dx C : Addr} (nx : H x = Option.none) (nd : H dx = Option.none) (k : ∀ b o, (upd (upd H dx (.own x)) x (.ins C dx [])) b = some o -> b ≠ x -> H1 b = some o) : Same H H1 := fun b o e =>
 k b o (by rw [upd_ne (ne_of_none e nx), upd_ne (ne_of_none e nd)]; exact e) (ne_of_none e nx)
end L2
end
section
namespace RA
open Rc75
theorem runs_cons (a : Nat) (r : Row) : ∃ k q, runs (a :: r) = (k + 1, a) :: q := by
 show ∃ k q, (match runs r with | [] => [(1, a)] | (k, b) :: l => if a = b then (k + 1, b) :: l else (1, a) :: (k, b) :: l) = (k + 1, a) :: q
 cases e : runs r with
 | nil => exact ⟨0, [], rfl⟩
 | cons p l =>
  obtain ⟨k, b⟩ := p
  by_cases h : a = b
  ·subst h
   exact ⟨k, l, by simp⟩
  ·exact ⟨0, (k, b) :: l, by simp [h]⟩
theorem runs_new {a : Nat} {v : Row} (h : v.head? ≠ some a) : runs (a :: v) = (1, a) :: runs v := by
 cases v with
 | nil => rfl
 | cons b v =>
  have hb : a ≠ b := fun e => h (by simp [e])
  obtain ⟨k, q, e⟩ := runs_cons b v
  show (match runs (b :: v) with | [] => [(1, a)] | (k, b) :: l => if a = b then (k + 1, b) :: l else (1, a) :: (k, b) :: l) = _
  rw [e]
  simp [hb]
theorem runs_more {a k : Nat} {v : Row} {q : List (Nat × Nat)} (h : runs v = (k, a) :: q) : runs (a :: v) = (k + 1, a) :: q := by
 show (match runs v with | [] => [(1, a)] | (k, b) :: l => if a = b then (k + 1, b) :: l else (1, a) :: (k, b) :: l) = _
 rw [h]
 simp
def Apart (u v : Row) : Prop := ∀ a, u.getLast? = some a -> v.head? ≠ some a
theorem runs_append : ∀ {u v : Row}, Apart u v -> runs (u ++ v) = runs u ++ runs v
 | [], v, _ => rfl
 | [a], v, h => by
  have h' : v.head? ≠ some a := h a rfl
  show runs (a :: v) = [(1, a)] ++ runs v
  rw [runs_new h']
  rfl
 | a :: b :: r, v, h => by
  have ih : runs ((b :: r) ++ v) = runs (b :: r) ++ runs v := runs_append (u := b :: r) fun c e => h c (by simpa [List.getLast?_cons_cons] using e)
  obtain ⟨k, q, e⟩ := runs_cons b r
  rw [e] at ih
  by_cases hab : a = b
  ·subst hab
   rw [show runs (a :: a :: r) = (k + 1 + 1, a) :: q from runs_more e]
   exact runs_more (v := (a :: r) ++ v) ih
  ·rw [show runs (a :: b :: r) = (1, a) :: runs (b :: r) from runs_new (by simp; exact fun e => hab e.symm)]
   show runs (a :: ((b :: r) ++ v)) = _
   rw [runs_new (by simp; exact fun e => hab e.symm), ih, e]
   rfl
theorem runs_rep (a : Nat) : ∀ k, runs (List.replicate (k + 1) a) = [(k + 1, a)]
 | 0 => rfl
 | k + 1 => by
  rw [List.replicate_succ]
  exact runs_more (runs_rep a k)
theorem runs_ge {l : Row} : ∀ p ∈ runs l, 1 <= p.1 /\ p.2 ∈ l := by
 induction l with
 | nil => intro p hp; cases hp
 | cons a r ih =>
  intro p hp
  cases r with
  | nil =>
   have : p = (1, a) := by simpa [runs] using hp
   subst this
   simp
  | cons b r =>
   obtain ⟨k, q, e⟩ := runs_cons b r
   by_cases hab : a = b
   ·subst hab
    rw [runs_more e] at hp
    rcases List.mem_cons.mp hp with rfl | h
    ·simp
    ·have := ih p (by rw [e]; exact List.mem_cons_of_mem _ h)
     exact ⟨this.1, List.mem_cons_of_mem _ this.2⟩
   ·rw [runs_new (by simp; exact fun z => hab z.symm)] at hp
    rcases List.mem_cons.mp hp with rfl | h
    ·simp
    ·have := ih p h
     exact ⟨this.1, List.mem_cons_of_mem _ this.2⟩
theorem runs_length_le : ∀ l : Row, (runs l).length <= l.length
 | [] => Nat.le_refl _
 | [a] => Nat.le_refl _
 | a :: b :: r => by
  have ih := runs_length_le (b :: r)
  obtain ⟨k, q, e⟩ := runs_cons b r
  by_cases hab : a = b
  ·subst hab
   rw [runs_more e]
   rw [e] at ih
   simp at ih ⊢
   omega
  ·rw [runs_new (by simp; exact fun z => hab z.symm)]
   simp at ih ⊢
   omega
def Adj : List (Nat × Nat) -> Prop
 | (_, a) :: (k, b) :: r => a ≠ b /\ Adj ((k, b) :: r)
 | _ => True
theorem runs_adj : ∀ l : Row, Adj (runs l)
 | [] => trivial
 | [a] => trivial
 | a :: b :: r => by
  have ih := runs_adj (b :: r)
  obtain ⟨k, q, e⟩ := runs_cons b r
  rw [e] at ih
  by_cases hab : a = b
  ·subst hab
   rw [runs_more e]
   cases q with
   | nil => trivial
   | cons p q => exact ih
  ·rw [runs_new (by simp; exact fun z => hab z.symm), e]
   exact ⟨hab, ih⟩
def fl (p : List (Nat × Nat)) : Row := p.flatMap fun x => [x.1, x.2]
theorem fl_cons (c d : Nat) (q : List (Nat × Nat)) : fl ((c, d) :: q) = c :: d :: fl q := rfl
theorem fl_append (p q : List (Nat × Nat)) : fl (p ++ q) = fl p ++ fl q := by simp [fl]
theorem fl_length : ∀ p : List (Nat × Nat), (fl p).length = 2 * p.length
 | [] => rfl
 | (c, d) :: q => by
  rw [fl_cons]
  simp [fl_length q]
  omega
theorem aloud_eq (l : Row) : aloud l = fl (runs l) := rfl
theorem aloud_append {u v : Row} (h : Apart u v) : aloud (u ++ v) = aloud u ++ aloud v := by
 rw [aloud_eq, runs_append h, fl_append]
 rfl
theorem aloud_length (l : Row) : (aloud l).length = 2 * (runs l).length := fl_length _
theorem aloud_length_le (l : Row) : (aloud l).length <= 2 * l.length := by
 have := runs_length_le l
 rw [aloud_length]
 omega
theorem later_succ : ∀ (n : Nat) (l : Row), later (n + 1) l = aloud (later n l)
 | 0, _ => rfl
 | n + 1, l => later_succ n (aloud l)
theorem later_add : ∀ (m n : Nat) (l : Row), later (m + n) l = later n (later m l)
 | 0, n, l => by rw [Nat.zero_add]; rfl
 | m + 1, n, l => by
  rw [show m + 1 + n = (m + n) + 1 from by omega]
  exact later_add m n (aloud l)
def Plain (l : Row) : Prop := (∀ x ∈ l, 1 <= x /\ x <= 9) /\ ∀ p ∈ runs l, p.1 <= 9
theorem plain_iff (l : Row) : plain l = true ↔ Plain l := by
 unfold plain Plain
 simp [List.all_eq_true]
theorem Plain.nil : Plain [] := by
 refine ⟨?_, ?_⟩ <;> (intro x hx; cases hx)
theorem fl_runs3 : ∀ (q : List (Nat × Nat)) (c d : Nat), Adj ((c, d) :: q) -> (∀ x ∈ runs (d :: fl q), x.1 <= 3) /\ ∀ k t, runs (d :: fl q) = (k, d) :: t -> k <= 2
 | [], c, d, _ => by
  refine ⟨fun x hx => ?_, fun k t e => ?_⟩
  ·have : x = (1, d) := by simpa [fl, runs] using hx
   subst this
   show 1 <= 3
   decide
  ·have : [(1, d)] = (k, d) :: t := e
   cases this
   decide
 | (c', d') :: q, c, d, h => by
  obtain ⟨hdd, h'⟩ := h
  obtain ⟨i1, i2⟩ := fl_runs3 q c' d' h'
  obtain ⟨k, t, e⟩ := runs_cons d' (fl q)
  have hk := i2 _ _ e
  have A : (∀ x ∈ runs (c' :: d' :: fl q), x.1 <= 3) /\ (c' ≠ d' -> ∃ t, runs (c' :: d' :: fl q) = (1, c') :: t) := by
   by_cases hc : c' = d'
   ·subst hc
    rw [runs_more e]
    refine ⟨fun x hx => ?_, fun z => absurd rfl z⟩
    rcases List.mem_cons.mp hx with rfl | z
    ·show k + 1 + 1 <= 3
     omega
    ·exact i1 x (by rw [e]; exact List.mem_cons_of_mem _ z)
   ·rw [runs_new (by simp; exact fun z => hc z.symm)]
    refine ⟨fun x hx => ?_, fun _ => ⟨_, rfl⟩⟩
    rcases List.mem_cons.mp hx with rfl | z
    ·show 1 <= 3
     decide
    ·exact i1 x z
  rw [fl_cons]
  by_cases hc : d = c'
  ·subst hc
   obtain ⟨t', e'⟩ := A.2 hdd
   rw [runs_more e']
   refine ⟨fun x hx => ?_, fun k t z => ?_⟩
   ·rcases List.mem_cons.mp hx with rfl | z
    ·show 1 + 1 <= 3
     decide
    ·exact A.1 x (by rw [e']; exact List.mem_cons_of_mem _ z)
   ·cases z
    decide
  ·rw [runs_new (by simp; exact fun z => hc z.symm)]
   refine ⟨fun x hx => ?_, fun k t z => ?_⟩
   ·rcases List.mem_cons.mp hx with rfl | z
    ·show 1 <= 3
     decide
    ·exact A.1 x z
   ·cases z
    decide
theorem aloud_runs3 (l : Row) : ∀ p ∈ runs (aloud l), p.1 <= 3 := by
 rw [aloud_eq]
 have h := runs_adj l
 cases e : runs l with
 | nil => intro p hp; cases hp
 | cons p q =>
  obtain ⟨c, d⟩ := p
  rw [e] at h
  obtain ⟨i1, i2⟩ := fl_runs3 q c d h
  obtain ⟨k, t, e'⟩ := runs_cons d (fl q)
  have hk := i2 _ _ e'
  rw [fl_cons]
  intro x hx
  by_cases hc : c = d
  ·subst hc
   rw [runs_more e'] at hx
   rcases List.mem_cons.mp hx with rfl | z
   ·show k + 1 + 1 <= 3
    omega
   ·exact i1 x (by rw [e']; exact List.mem_cons_of_mem _ z)
  ·rw [runs_new (by simp; exact fun z => hc z.symm)] at hx
   rcases List.mem_cons.mp hx with rfl | z
   ·show 1 <= 3
    decide
   ·exact i1 x z
theorem mem_fl {p : List (Nat × Nat)} {x : Nat} (h : x ∈ fl p) : ∃ q ∈ p, x = q.1 \/ x = q.2 := by
 unfold fl at h
 obtain ⟨q, hq, hx⟩ := List.mem_flatMap.mp h
 exact ⟨q, hq, by simpa using hx⟩
theorem Plain.aloud {l : Row} (h : Plain l) : Plain (aloud l) := by
 refine ⟨fun x hx => ?_, fun p hp => Nat.le_trans (aloud_runs3 l p hp) (by decide)⟩
 obtain ⟨q, hq, e⟩ := mem_fl hx
 rcases e with rfl | rfl
 ·exact ⟨(runs_ge q hq).1, h.2 q hq⟩
 ·exact h.1 _ (runs_ge q hq).2
theorem Plain.later {l : Row} (h : Plain l) : ∀ n, Plain (later n l)
 | 0 => h
 | n + 1 => by
  rw [later_succ]
  exact (h.later n).aloud
def un : Row -> Row
 | k :: a :: r => List.replicate k a ++ un r
 | _ => []
theorem said_odd : ∀ l : Row, l.length % 2 = 1 -> said l = none
 | [], h => by simp at h
 | [_], _ => rfl
 | k :: a :: r, h => by
  have ih := said_odd r (by simp at h; omega)
  show (said r).bind _ = none
  rw [ih]
  rfl
theorem un_head {k a : Nat} {r : Row} (hk : 1 <= k) : (un (k :: a :: r)).head? = some a := by
 show (List.replicate k a ++ un r).head? = some a
 cases k with
 | zero => omega
 | succ k => rw [List.replicate_succ]; rfl
def Alt (l : Row) : Prop := ∀ i : Nat, 2 * i + 3 < l.length -> l[2 * i + 1]? ≠ l[2 * i + 3]?
theorem Alt.tail {k a : Nat} {r : Row} (h : Alt (k :: a :: r)) : Alt r := by
 intro i hi
 have := h (i + 1) (by simp; omega)
 rw [show 2 * (i + 1) + 1 = (2 * i + 1) + 2 from by omega, show 2 * (i + 1) + 3 = (2 * i + 3) + 2 from by omega] at this
 simpa using this
theorem said_ok : ∀ l : Row, (∀ x ∈ l, 1 <= x) -> l.length % 2 = 0 -> Alt l -> said l = some (un l)
 | [], _, _, _ => rfl
 | [_], _, h, _ => by simp at h
 | k :: a :: r, hp, h, ha => by
  have ih := said_ok r (fun x hx => hp x (by simp [hx])) (by simp at h; omega) ha.tail
  show (said r).bind (fun t => if k = 0 \/ t.head? = some a then none else some (List.replicate k a ++ t)) = _
  rw [ih]
  show (if k = 0 \/ (un r).head? = some a then none else some (List.replicate k a ++ un r)) = some (List.replicate k a ++ un r)
  have hk := hp k (by simp)
  refine if_neg fun z => ?_
  rcases z with z | z
  ·omega
  ·match r, h, ha, z, hp with
   | [], _, _, z, _ => cases z
   | [_], h, _, _, _ => simp at h
   | k' :: b :: r', _, ha, z, hp =>
    rw [un_head (hp k' (by simp))] at z
    have := ha 0 (by simp)
    simp at this
    exact this (Option.some.inj z).symm
theorem said_adj : ∀ (l : Row) (i : Nat), (∀ x ∈ l, 1 <= x) -> 2 * i + 3 < l.length -> l[2 * i + 1]? = l[2 * i + 3]? -> said l = none
 | [], i, _, h, _ => by simp at h
 | [_], i, _, h, _ => by simp at h
 | k :: a :: r, i, hp, h, e => by
  show (said r).bind (fun t => if k = 0 \/ t.head? = some a then none else some (List.replicate k a ++ t)) = none
  cases i with
  | zero =>
   cases es : said r with
   | none => rfl
   | some t =>
    show (if k = 0 \/ t.head? = some a then none else some (List.replicate k a ++ t)) = none
    refine if_pos (.inr ?_)
    match r, es, h, e, hp with
    | [], _, h, _, _ => simp at h
    | [_], _, h, _, _ => simp at h
    | k' :: b :: r', es, _, e, hp =>
     have es' : (said r').bind (fun t => if k' = 0 \/ t.head? = some b then none else some (List.replicate k' b ++ t)) = some t := es
     cases e2 : said r' with
     | none => rw [e2] at es'; cases es'
     | some t' =>
      rw [e2] at es'
      have es2 : (if k' = 0 \/ t'.head? = some b then none else some (List.replicate k' b ++ t')) = some t := es'
      split at es2
      ·cases es2
      ·cases es2
       have e' : a = b := by simpa using e
       subst e'
       have hk := hp k' (by simp)
       cases k' with
       | zero => omega
       | succ k' => rw [List.replicate_succ]; rfl
  | succ i =>
   have ih := said_adj r i (fun x hx => hp x (by simp [hx])) (by simp at h; omega) (by
    rw [show 2 * (i + 1) + 1 = (2 * i + 1) + 2 from by omega, show 2 * (i + 1) + 3 = (2 * i + 3) + 2 from by omega] at e
    simpa using e)
   rw [ih]
   rfl
theorem said_plain : ∀ (l t : Row), (∀ x ∈ l, 1 <= x /\ x <= 9) -> said l = some t -> Plain t
 | [], t, _, e => by
  have e' : some ([] : Row) = some t := e
  cases e'
  exact Plain.nil
 | [_], t, _, e => by
  have e' : (none : Option Row) = some t := e
  cases e'
 | k :: a :: r, t, hp, e => by
  have e' : (said r).bind (fun t => if k = 0 \/ t.head? = some a then none else some (List.replicate k a ++ t)) = some t := e
  cases e2 : said r with
  | none => rw [e2] at e'; cases e'
  | some t' =>
   rw [e2] at e'
   have e3 : (if k = 0 \/ t'.head? = some a then none else some (List.replicate k a ++ t')) = some t := e'
   have ih := said_plain r t' (fun x hx => hp x (by simp [hx])) e2
   split at e3
   ·cases e3
   ·rename_i hn
    cases e3
    have hk := hp k (by simp)
    have ha := hp a (by simp)
    have hap : Apart (List.replicate k a) t' := fun b hb => by
     have : b = a := (List.mem_replicate.mp (List.mem_of_getLast? hb)).2
     subst this
     exact fun z => hn (.inr z)
    refine ⟨fun x hx => ?_, fun p hp' => ?_⟩
    ·rcases List.mem_append.mp hx with z | z
     ·rw [(List.mem_replicate.mp z).2]
      exact ha
     ·exact ih.1 x z
    ·rw [runs_append hap] at hp'
     rcases List.mem_append.mp hp' with z | z
     ·obtain ⟨j, rfl⟩ : ∃ j, k = j + 1 := ⟨k - 1, by omega⟩
      rw [runs_rep] at z
      have := List.mem_singleton.mp z
      subst this
      exact hk.2
     ·exact ih.2 p z
theorem un_length : ∀ l : Row, (∀ x ∈ l, x <= 9) -> (un l).length <= 9 * l.length
 | [], _ => by simp [un]
 | [_], _ => by simp [un]
 | k :: a :: r, h => by
  have ih := un_length r fun x hx => h x (by simp [hx])
  have hk := h k (by simp)
  show (List.replicate k a ++ un r).length <= _
  simp
  omega
theorem un_take : ∀ (l : Row) (i k a : Nat), l[2 * i]? = some k -> l[2 * i + 1]? = some a -> un (l.take (2 * i + 2)) = un (l.take (2 * i)) ++ List.replicate k a
 | [], i, k, a, h, _ => by simp at h
 | [_], i, k, a, _, h => by simp at h
 | k' :: a' :: r, 0, k, a, h1, h2 => by
  simp at h1 h2
  subst h1 h2
  simp [un]
 | k' :: a' :: r, i + 1, k, a, h1, h2 => by
  have e1 : 2 * (i + 1) = 2 * i + 2 := by omega
  have h1' : r[2 * i]? = some k := by rw [e1] at h1; simpa using h1
  have h2' : r[2 * i + 1]? = some a := by
   rw [show 2 * (i + 1) + 1 = (2 * i + 1) + 2 from by omega] at h2
   simpa using h2
  have ih := un_take r i k a h1' h2'
  rw [e1]
  show List.replicate k' a' ++ un (r.take (2 * i + 2)) = (List.replicate k' a' ++ un (r.take (2 * i))) ++ List.replicate k a
  rw [ih, List.append_assoc]
theorem take_rep {l : Row} {d : Nat} : ∀ (k s : Nat), (∀ j, s <= j -> j < s + k -> l[j]? = some d) -> (l.drop s).take k = List.replicate k d
 | 0, s, _ => by simp
 | k + 1, s, h => by
  have h0 := h s (Nat.le_refl _) (by omega)
  have ih := take_rep (l := l) (d := d) k (s + 1) fun j h1 h2 => h j (by omega) (by omega)
  obtain ⟨hs, e⟩ := List.getElem?_eq_some_iff.mp h0
  rw [List.drop_eq_getElem_cons hs, List.take_succ_cons, e, ih, List.replicate_succ]
theorem seg_append {l : Row} {s e d : Nat} (hse : s < e) (he : e <= l.length) (h : ∀ j, s <= j -> j < e -> l[j]? = some d) (hb : 0 < s -> l[s - 1]? ≠ some d) : runs (l.take e) = runs (l.take s) ++ [(e - s, d)] := by
 have e1 : l.take e = l.take s ++ List.replicate (e - s) d := by
  have := take_rep (l := l) (d := d) (e - s) s fun j h1 h2 => h j h1 (by omega)
  rw [<- this]
  rw [show e = s + (e - s) from by omega, List.take_add]
  simp
 obtain ⟨k, hk⟩ : ∃ k, e - s = k + 1 := ⟨e - s - 1, by omega⟩
 have hap : Apart (l.take s) (List.replicate (e - s) d) := by
  intro a ha
  rw [hk, List.replicate_succ]
  intro z
  have z' : d = a := by simpa using z
  subst z'
  rw [List.getLast?_eq_getElem?] at ha
  have hl : (l.take s).length = s := by rw [List.length_take]; omega
  rw [hl] at ha
  have hs : 0 < s := by
   refine Nat.pos_of_ne_zero fun z => ?_
   subst z
   simp at ha
  rw [List.getElem?_take_of_lt (by omega)] at ha
  exact hb hs ha
 rw [e1, runs_append hap, hk, runs_rep]
structure Seg (l : Row) (s i : Nat) : Prop where
 le : s <= i
 same : ∀ j, s <= j -> j <= i -> j < l.length -> l[j]? = l[s]?
 new : 0 < s -> l[s - 1]? ≠ l[s]?
 fin : i = l.length -> s = l.length
theorem Seg.zero (l : Row) : Seg l 0 0 := ⟨Nat.le_refl _, fun j h1 h2 _ => by rw [show j = 0 from by omega], fun h => by omega, fun h => h⟩
theorem Seg.lt {l : Row} {s i : Nat} (h : Seg l s i) (hi : i < l.length) : s < l.length := Nat.lt_of_le_of_lt h.le hi
theorem Seg.runs {l : Row} {s i d : Nat} (h : Seg l s i) (hi : i < l.length) (hd : l[s]? = some d) : Rc75.runs (l.take (i + 1)) = Rc75.runs (l.take s) ++ [(i + 1 - s, d)] := by
 have := h.le
 exact seg_append (by omega) hi (fun j h1 h2 => (h.same j h1 (by omega) (by omega)).trans hd) fun hs => by rw [<- hd]; exact h.new hs
theorem Seg.cut {l : Row} {s i : Nat} (h : Seg l s i) (hi : i < l.length) (hn : i + 1 = l.length \/ l[i + 1]? ≠ l[s]?) : Seg l (i + 1) (i + 1) := by
 have h1 := h.same i h.le (Nat.le_refl _) hi
 refine ⟨Nat.le_refl _, fun j h1 h2 _ => by rw [show j = i + 1 from by omega], fun _ => ?_, fun h => h⟩
 show l[i]? ≠ l[i + 1]?
 rw [h1]
 rcases hn with hn | hn
 ·rw [List.getElem?_eq_none (show l.length <= i + 1 by omega)]
  have := h.lt hi
  rw [List.getElem?_eq_getElem this]
  exact Option.some_ne_none _
 ·exact fun e => hn e.symm
theorem Seg.on {l : Row} {s i : Nat} (h : Seg l s i) (hi : i + 1 < l.length) (he : l[i + 1]? = l[s]?) : Seg l s (i + 1) := by
 have := h.le
 refine ⟨by omega, fun j h1 h2 h3 => ?_, h.new, fun h => by omega⟩
 by_cases hj : j = i + 1
 ·subst hj; exact he
 ·exact h.same j h1 (by omega) h3
end RA
end
section
namespace RA
open Rc75 PyFlat
open Rc75Neutral hiding told row long
inductive Shape : List (List Int) -> Prop
 | begin : Shape [[0]]
 | set (r : List Int) : Shape [[1], r]
 | row (x : Int) : Shape [[2, x]]
 | days (x : Int) : Shape [[3, x]]
 | back : Shape [[4]]
 | long (x : Int) : Shape [[5, x]]
 | count (x y : Int) : Shape [[6, x, y]]
 | at_ (x y : Int) : Shape [[7, x, y]]
 | cuts (x : Int) : Shape [[8, x]]
theorem nil_of_len {α : Type} {a : List α} (h : 0 = a.length) : a = [] := List.eq_nil_of_length_eq_zero h.symm
theorem one_of_len {α : Type} {a : List α} (h : 1 = a.length) : ∃ x, a = [x] := by
 match a, h with
 | [x], _ => exact ⟨x, rfl⟩
theorem two_of_len {α : Type} {a : List α} (h : 2 = a.length) : ∃ x y, a = [x, y] := by
 match a, h with
 | [x, y], _ => exact ⟨x, y, rfl⟩
theorem shape_of {c : List (List Int)} (h : okCall PyRc75.shape c) : Shape c := by
 obtain ⟨p, a, xs, rfl, hs⟩ := h
 unfold PyRc75.shape at hs
 by_cases h0 : p = 0
 ·subst h0; simp at hs; obtain ⟨e1, e2⟩ := hs
  rw [nil_of_len e1, nil_of_len e2]; exact .begin
 by_cases h1 : p = 1
 ·subst h1; simp at hs; obtain ⟨e1, e2⟩ := hs
  obtain ⟨x, rfl⟩ := one_of_len e2
  rw [nil_of_len e1]; exact .set _
 by_cases h2 : p = 2
 ·subst h2; simp at hs; obtain ⟨e1, e2⟩ := hs
  obtain ⟨x, rfl⟩ := one_of_len e1
  rw [nil_of_len e2]; exact .row _
 by_cases h3 : p = 3
 ·subst h3; simp at hs; obtain ⟨e1, e2⟩ := hs
  obtain ⟨x, rfl⟩ := one_of_len e1
  rw [nil_of_len e2]; exact .days _
 by_cases h4 : p = 4
 ·subst h4; simp at hs; obtain ⟨e1, e2⟩ := hs
  rw [nil_of_len e1, nil_of_len e2]; exact .back
 by_cases h5 : p = 5
 ·subst h5; simp at hs; obtain ⟨e1, e2⟩ := hs
  obtain ⟨x, rfl⟩ := one_of_len e1
  rw [nil_of_len e2]; exact .long _
 by_cases h6 : p = 6
 ·subst h6; simp at hs; obtain ⟨e1, e2⟩ := hs
  obtain ⟨x, y, rfl⟩ := two_of_len e1
  rw [nil_of_len e2]; exact .count _ _
 by_cases h7 : p = 7
 ·subst h7; simp at hs; obtain ⟨e1, e2⟩ := hs
  obtain ⟨x, y, rfl⟩ := two_of_len e1
  rw [nil_of_len e2]; exact .at_ _ _
 by_cases h8 : p = 8
 ·subst h8; simp at hs; obtain ⟨e1, e2⟩ := hs
  obtain ⟨x, rfl⟩ := one_of_len e1
  rw [nil_of_len e2]; exact .cuts _
 ·simp [h0, h1, h2, h3, h4, h5, h6, h7, h8] at hs
def rowI (l : Row) : List Int := l.map fun (n : Nat) => (n : Int)
theorem step_set (s : S) (b : Int) (r : List Int) : step s [[1, b], r] = if b < 1 \/ 256 < b \/ plain (natsOf r) = false then (s, [-1]) else ({ row := natsOf r }, [0]) := by
 show (let y : Abs × Ans := does s (.set (natsOf r) b); (y.1, y.2.value :: y.2.numbers.map fun (b : Nat) => (b : Int))) = _
 show (let y : Abs × Ans := (if b < 1 \/ (FIRST : Int) < b \/ plain (natsOf r) = false then (s, refused) else ({ row := natsOf r }, { value := 0 })); (y.1, y.2.value :: y.2.numbers.map fun (b : Nat) => (b : Int))) = _
 by_cases h : b < 1 \/ 256 < b \/ plain (natsOf r) = false
 ·rw [if_pos h]; rw [if_pos (show b < 1 \/ (FIRST : Int) < b \/ plain (natsOf r) = false from h)]; rfl
 ·rw [if_neg h]; rw [if_neg (show ¬ (b < 1 \/ (FIRST : Int) < b \/ plain (natsOf r) = false) from h)]; rfl
theorem step_row (s : S) (x : Int) : step s [[2, x]] = if roomOf x < s.row.length then (s, [-2]) else (s, (s.row.length : Int) :: rowI s.row) := by
 show (let y : Abs × Ans := (if roomOf x < s.row.length then (s, { value := -2 }) else (s, { value := (s.row.length : Nat), numbers := s.row })); (y.1, y.2.value :: y.2.numbers.map fun (b : Nat) => (b : Int))) = _
 by_cases h : roomOf x < s.row.length
 ·rw [if_pos h, if_pos h]; rfl
 ·rw [if_neg h, if_neg h]; rfl
theorem isDays_eq (d : Int) : isDays d = decide (0 <= d /\ d <= 120) := rfl
theorem step_days (s : S) (d : Int) : step s [[3, d]] = if isDays d = false then (s, [-1]) else
  if ((List.range (d.toNat + 1)).all fun (k : Nat) => decide ((later k s.row).length <= 65536)) = false then (s, [-2]) else ({ row := later d.toNat s.row }, [((later d.toNat s.row).length : Int)]) := by
 show (let y : Abs × Ans := (if isDays d = false then (s, refused) else
  if ((List.range (d.toNat + 1)).all fun (k : Nat) => decide ((later k s.row).length <= LONG)) = false then (s, { value := -2 }) else ({ row := later d.toNat s.row }, { value := ((later d.toNat s.row).length : Nat) })); (y.1, y.2.value :: y.2.numbers.map fun (b : Nat) => (b : Int))) = _
 by_cases h : isDays d = false
 ·rw [if_pos h, if_pos h]; rfl
 ·rw [if_neg h, if_neg h]
  by_cases h2 : ((List.range (d.toNat + 1)).all fun (k : Nat) => decide ((later k s.row).length <= 65536)) = false
  ·rw [if_pos h2]; rw [if_pos (show ((List.range (d.toNat + 1)).all fun (k : Nat) => decide ((later k s.row).length <= LONG)) = false from h2)]; rfl
  ·rw [if_neg h2]; rw [if_neg (show ¬ ((List.range (d.toNat + 1)).all fun (k : Nat) => decide ((later k s.row).length <= LONG)) = false from h2)]; rfl
theorem step_back (s : S) : step s [[4]] = match said s.row with
  | some l => if l.length <= 65536 then ({ row := l }, [(l.length : Int)]) else (s, [-2])
  | none => (s, [-2]) := by
 show (let y : Abs × Ans := (match said s.row with
  | some l => if l.length <= LONG then ({ row := l }, { value := (l.length : Nat) }) else (s, { value := -2 })
  | none => (s, { value := -2 })); (y.1, y.2.value :: y.2.numbers.map fun (b : Nat) => (b : Int))) = _
 cases said s.row with
 | none => rfl
 | some l =>
  by_cases h : l.length <= 65536
  ·dsimp only; rw [if_pos h]; rw [if_pos (show l.length <= LONG from h)]; rfl
  ·dsimp only; rw [if_neg h]; rw [if_neg (show ¬ l.length <= LONG from h)]; rfl
theorem step_long (s : S) (d : Int) : step s [[5, d]] = if isDays d = false then (s, [-1]) else (s, [0, (((later d.toNat s.row).length % 2 ^ 64 : Nat) : Int)]) := by
 show (let y : Abs × Ans := (if isDays d = false then (s, refused) else (s, { value := 0, numbers := [(later d.toNat s.row).length % 2 ^ 64] })); (y.1, y.2.value :: y.2.numbers.map fun (b : Nat) => (b : Int))) = _
 by_cases h : isDays d = false
 ·rw [if_pos h, if_pos h]; rfl
 ·rw [if_neg h, if_neg h]; rfl
theorem step_count (s : S) (d a : Int) : step s [[6, d, a]] = if isDays d = false \/ a < 1 \/ 9 < a then (s, [-1]) else (s, [0, ((((later d.toNat s.row).filter fun (x : Nat) => x == a.toNat).length % 2 ^ 64 : Nat) : Int)]) := by
 show (let y : Abs × Ans := (if isDays d = false \/ a < 1 \/ 9 < a then (s, refused) else (s, { value := 0, numbers := [((later d.toNat s.row).filter fun (x : Nat) => x == a.toNat).length % 2 ^ 64] })); (y.1, y.2.value :: y.2.numbers.map fun (b : Nat) => (b : Int))) = _
 by_cases h : isDays d = false \/ a < 1 \/ 9 < a
 ·rw [if_pos h, if_pos h]; rfl
 ·rw [if_neg h, if_neg h]; rfl
theorem step_at (s : S) (d i : Int) : step s [[7, d, i]] = if isDays d = false then (s, [-1]) else match (later d.toNat s.row)[i.toNat]? with
  | some a => (s, [(a : Int)])
  | none => (s, [-1]) := by
 show (let y : Abs × Ans := (if isDays d = false then (s, refused) else match (later d.toNat s.row)[i.toNat]? with
  | some a => (s, { value := (a : Nat) })
  | none => (s, refused)); (y.1, y.2.value :: y.2.numbers.map fun (b : Nat) => (b : Int))) = _
 by_cases h : isDays d = false
 ·rw [if_pos h, if_pos h]; rfl
 ·rw [if_neg h, if_neg h]
  cases (later d.toNat s.row)[i.toNat]? <;> rfl
theorem step_cuts (s : S) (x : Int) : step s [[8, x]] = if roomOf x < (cutsOf s.row).length then (s, [-2]) else (s, ((cutsOf s.row).length : Int) :: rowI (cutsOf s.row)) := by
 show (let y : Abs × Ans := (if roomOf x < (cutsOf s.row).length then (s, { value := -2 }) else (s, { value := ((cutsOf s.row).length : Nat), numbers := cutsOf s.row })); (y.1, y.2.value :: y.2.numbers.map fun (b : Nat) => (b : Int))) = _
 by_cases h : roomOf x < (cutsOf s.row).length
 ·rw [if_pos h, if_pos h]; rfl
 ·rw [if_neg h, if_neg h]; rfl
structure Good (l : Row) : Prop where
 pl : Plain l
 le : l.length <= 65536
theorem Good.nil : Good [] := ⟨Plain.nil, by decide⟩
theorem asked_set {b : Int} {r : List Int} (h : asked1 [[1, b], r] = true) : (∀ z ∈ r, 0 <= z /\ z < 256) /\ ((b <= 40 \/ 256 < b) /\ (r.length : Int) = if 1 <= b /\ b <= 256 then b else 0) := by
 have h' : ((r.all (fun (z : Int) => natural z 8) && Rc75Neutral.long r b 1 256) && (whole32 b && (decide (b <= 40) || decide (256 < b)))) = true := h
 simp only [Bool.and_eq_true, Bool.or_eq_true, decide_eq_true_eq, List.all_eq_true, natural, Rc75Neutral.long] at h'
 exact ⟨fun z hz => ⟨(h'.1.1 z hz).1, by have := (h'.1.1 z hz).2; simpa using this⟩, h'.2.2, h'.1.2⟩
theorem whole_set_len {r : List Int} (h : asked1 [[1, (r.length : Int)], r] = true) : r.length <= 40 := by
 obtain ⟨_, h1, h2⟩ := asked_set h
 split at h2 <;> omega
theorem good_step {s : S} {c : List (List Int)} (hs : Good s.row) (hc : Shape c) (ha : asked1 (PyRc75.whole c) = true) : Good (step s (PyRc75.whole c)).1.row /\ (step s (PyRc75.whole c)).2.length <= 65537 := by
 cases hc with
 | begin => exact ⟨Good.nil, show 1 <= 65537 by decide⟩
 | set r =>
  show Good (step s [[1, (r.length : Int)], r]).1.row /\ (step s [[1, (r.length : Int)], r]).2.length <= 65537
  have hl := whole_set_len ha
  rw [step_set]
  by_cases h : (r.length : Int) < 1 \/ 256 < (r.length : Int) \/ plain (natsOf r) = false
  ·rw [if_pos h]; exact ⟨hs, by simp⟩
  ·rw [if_neg h]
   refine ⟨⟨(plain_iff _).mp ?_, ?_⟩, by simp⟩
   ·cases e : plain (natsOf r) with
    | true => rfl
    | false => exact absurd (.inr (.inr e)) h
   ·show (natsOf r).length <= _
    simp [natsOf]; omega
 | row x =>
  show Good (step s [[2, x]]).1.row /\ (step s [[2, x]]).2.length <= 65537
  have := hs.le
  rw [step_row]; split
  ·exact ⟨hs, by simp⟩
  ·exact ⟨hs, by simp [rowI]; omega⟩
 | days d =>
  show Good (step s [[3, d]]).1.row /\ (step s [[3, d]]).2.length <= 65537
  rw [step_days]
  by_cases h : isDays d = false
  ·rw [if_pos h]; exact ⟨hs, by simp⟩
  ·rw [if_neg h]
   cases h2 : ((List.range (d.toNat + 1)).all fun (k : Nat) => decide ((later k s.row).length <= 65536)) with
   | false => rw [if_pos rfl]; exact ⟨hs, by simp⟩
   | true =>
    rw [if_neg (by decide)]
    refine ⟨⟨hs.pl.later _, ?_⟩, by simp⟩
    have := List.all_eq_true.mp h2 d.toNat (by simp)
    exact of_decide_eq_true this
 | back =>
  show Good (step s [[4]]).1.row /\ (step s [[4]]).2.length <= 65537
  rw [step_back]
  cases e : said s.row with
  | none => exact ⟨hs, by simp⟩
  | some l =>
   dsimp only
   by_cases h : l.length <= 65536
   ·rw [if_pos h]; exact ⟨⟨said_plain _ _ hs.pl.1 e, h⟩, by simp⟩
   ·rw [if_neg h]; exact ⟨hs, by simp⟩
 | long d =>
  show Good (step s [[5, d]]).1.row /\ (step s [[5, d]]).2.length <= 65537
  rw [step_long]; split <;> exact ⟨hs, by simp⟩
 | count d a =>
  show Good (step s [[6, d, a]]).1.row /\ (step s [[6, d, a]]).2.length <= 65537
  rw [step_count]; split <;> exact ⟨hs, by simp⟩
 | at_ d i =>
  show Good (step s [[7, d, i]]).1.row /\ (step s [[7, d, i]]).2.length <= 65537
  rw [step_at]; split
  ·exact ⟨hs, by simp⟩
  ·split <;> exact ⟨hs, by simp⟩
 | cuts x =>
  show Good (step s [[8, x]]).1.row /\ (step s [[8, x]]).2.length <= 65537
  have h1 := hs.le
  have h2 : (cutsOf s.row).length <= s.row.length := by
   have := List.length_filter_le (fun (k : Nat) => decide (0 < k) && apartBy (s.row.take k) (s.row.drop k)) (List.range s.row.length)
   simpa [cutsOf] using this
  rw [step_cuts]; split
  ·exact ⟨hs, by simp⟩
  ·exact ⟨hs, by simp [rowI]; omega⟩
def after (s : S) : List (List (List Int)) -> S
 | [] => s
 | c :: r => after (step s c).1 r
theorem played_append (s : S) : ∀ a b : List (List (List Int)), played step s (a ++ b) = played step s a ++ played step (after s a) b := by
 intro a
 induction a generalizing s with
 | nil => intro b; rfl
 | cons c r ih =>
  intro b
  show (step s c).2 :: played step (step s c).1 (r ++ b) = _
  rw [ih]
  rfl
theorem after_append (s : S) : ∀ a b : List (List (List Int)), after s (a ++ b) = after (after s a) b := by
 intro a
 induction a generalizing s with
 | nil => intro b; rfl
 | cons c r ih => intro b; exact ih _ b
theorem told_append (a b : List (List Int)) : told (a ++ b) = told a ++ told b := by simp [told]
theorem told_one (a : List Int) : told [a] = (a.length : Int) :: a := by simp [told]
theorem put_append : ∀ a b : List (List (List Int)), put (a ++ b) = put a ++ put b
 | [], _ => rfl
 | c :: r, b => by
  show put1 c ++ put (r ++ b) = (put1 c ++ put r) ++ put b
  rw [put_append r b, List.append_assoc]
structure Line (l : List Int) (cs : List (List (List Int))) : Prop where
 put : l = PyFlat.put cs
 sh : ∀ c ∈ cs, Shape c
 as : ∀ c ∈ cs, asked1 (PyRc75.whole c) = true
 few : cs.length <= 20
 due : PyRc75.answers l = told (played step start (cs.map PyRc75.whole))
 sum : ((cs.map PyRc75.whole).map ahead).sum <= 20
theorem line_of {l : List Int} (h : PyRc75.answers_asked l = true) : ∃ cs, Line l cs := by
 unfold PyRc75.answers_asked PyRc75.calls at h
 cases e : PyFlat.calls PyRc75.shape l.length l with
 | none => rw [e] at h; cases h
 | some cs =>
  rw [e] at h
  have h' : (PyFlat.atMost 20 (cs.map PyRc75.whole) && Rc75Neutral.asked (cs.map PyRc75.whole)) = true := h
  rw [Bool.and_eq_true] at h'
  obtain ⟨h1, h2⟩ := h'
  unfold asked at h2
  simp only [Bool.and_eq_true, decide_eq_true_eq, List.all_eq_true] at h2
  obtain ⟨p1, p2⟩ := put_calls _ _ _ e
  refine ⟨cs, p1, fun c hc => shape_of (p2 c hc), fun c hc => h2.1.1 _ (List.mem_map_of_mem hc), ?_, ?_, h2.1.2.2.2⟩
  ·have := h2.1.2.1
   simpa using this
  ·unfold PyRc75.answers PyRc75.calls
   rw [e]
theorem good_after {cs : List (List (List Int))} : ∀ {s : S}, Good s.row -> (∀ c ∈ cs, Shape c) -> (∀ c ∈ cs, asked1 (PyRc75.whole c) = true) -> Good (after s (cs.map PyRc75.whole)).row := by
 induction cs with
 | nil => intro s h _ _; exact h
 | cons c r ih =>
  intro s h h1 h2
  exact ih (s := (step s (PyRc75.whole c)).1) (good_step h (h1 c (by simp)) (h2 c (by simp))).1 (fun d hd => h1 d (by simp [hd])) fun d hd => h2 d (by simp [hd])
theorem told_len {cs : List (List (List Int))} : ∀ {s : S}, Good s.row -> (∀ c ∈ cs, Shape c) -> (∀ c ∈ cs, asked1 (PyRc75.whole c) = true) -> (told (played step s (cs.map PyRc75.whole))).length <= 65538 * cs.length := by
 induction cs with
 | nil => intro s h _ _; exact Nat.zero_le _
 | cons c r ih =>
  intro s h h1 h2
  have g := good_step h (h1 c (by simp)) (h2 c (by simp))
  have i := ih (s := (step s (PyRc75.whole c)).1) g.1 (fun d hd => h1 d (by simp [hd])) fun d hd => h2 d (by simp [hd])
  show (told ((step s (PyRc75.whole c)).2 :: played step (step s (PyRc75.whole c)).1 (r.map PyRc75.whole))).length <= 65538 * (r.length + 1)
  have e : told ((step s (PyRc75.whole c)).2 :: played step (step s (PyRc75.whole c)).1 (r.map PyRc75.whole)) = told [(step s (PyRc75.whole c)).2] ++ told (played step (step s (PyRc75.whole c)).1 (r.map PyRc75.whole)) := told_append [_] _
  rw [e, told_one, List.length_append, List.length_cons]
  have := g.2
  omega
end RA
end
section
namespace RA
open Rc75
theorem fl_last (p : List (Nat × Nat)) : (fl p).getLast? = p.getLast?.map (·.2) := by
 induction p with
 | nil => rfl
 | cons x q ih =>
  obtain ⟨c, d⟩ := x
  rw [fl_cons]
  cases q with
  | nil => rfl
  | cons y r =>
   have e0 : ((c, d) :: y :: r).getLast? = (y :: r).getLast? := List.getLast?_cons_cons
   rw [e0, <- ih]
   obtain ⟨e, f⟩ := y
   rw [fl_cons, List.getLast?_cons_cons, List.getLast?_cons_cons]
theorem runs_last : ∀ l : Row, (runs l).getLast?.map (·.2) = l.getLast?
 | [] => rfl
 | [a] => rfl
 | a :: b :: r => by
  have ih := runs_last (b :: r)
  obtain ⟨k, q, e⟩ := runs_cons b r
  rw [List.getLast?_cons_cons, <- ih, e]
  by_cases hab : a = b
  ·subst hab
   rw [runs_more e]
   cases q with
   | nil => rfl
   | cons y q => rw [List.getLast?_cons_cons, List.getLast?_cons_cons]
  ·rw [runs_new (by simp; exact fun z => hab z.symm), e, List.getLast?_cons_cons]
theorem aloud_last (l : Row) : (aloud l).getLast? = l.getLast? := by rw [aloud_eq, fl_last, runs_last]
theorem later_last (l : Row) : ∀ n, (later n l).getLast? = l.getLast?
 | 0 => rfl
 | n + 1 => by rw [later_succ, aloud_last, later_last l n]
theorem aloud_ne {l : Row} (h : l ≠ []) : aloud l ≠ [] := by
 cases l with
 | nil => exact absurd rfl h
 | cons a r =>
  obtain ⟨k, q, e⟩ := runs_cons a r
  rw [aloud_eq, e, fl_cons]
  exact List.cons_ne_nil _ _
theorem later_ne {l : Row} (h : l ≠ []) : ∀ n, later n l ≠ []
 | 0 => h
 | n + 1 => by rw [later_succ]; exact aloud_ne (later_ne h n)
theorem later_nil : ∀ n, later n [] = []
 | 0 => rfl
 | n + 1 => later_nil n
theorem apart_iff {u v : Row} (hu : u ≠ []) : Apart u v ↔ u.getLast? ≠ v.head? := by
 cases e : u.getLast? with
 | none => exact absurd (List.getLast?_eq_none_iff.mp e) hu
 | some a =>
  refine ⟨fun h z => h a e z.symm, fun h b hb z => ?_⟩
  rw [e] at hb
  cases hb
  exact h z.symm
theorem later_append {u v : Row} : ∀ n : Nat, (∀ k, k < n -> Apart (later k u) (later k v)) -> later n (u ++ v) = later n u ++ later n v
 | 0, _ => rfl
 | n + 1, h => by
  rw [later_succ, later_succ, later_succ, later_append n fun k hk => h k (by omega), aloud_append (h n (Nat.lt_succ_self _))]
theorem runs_touch : ∀ {u v : Row} {a : Nat}, u.getLast? = some a -> v.head? = some a -> (runs (u ++ v)).length + 1 = (runs u).length + (runs v).length
 | [], v, a, h, _ => by cases h
 | [b], v, a, h, hv => by
  have e : b = a := by simpa using h
  subst e
  cases v with
  | nil => cases hv
  | cons c v =>
   have e : c = b := by simpa using hv
   subst e
   obtain ⟨k, q, e⟩ := runs_cons c v
   show (runs (c :: c :: v)).length + 1 = 1 + (runs (c :: v)).length
   rw [runs_more e, e]
   simp
   omega
 | b :: c :: r, v, a, h, hv => by
  have ih := runs_touch (u := c :: r) (v := v) (a := a) (by simpa [List.getLast?_cons_cons] using h) hv
  obtain ⟨k, q, e⟩ := runs_cons c r
  obtain ⟨k', q', e'⟩ := runs_cons c (r ++ v)
  have e'' : runs ((c :: r) ++ v) = (k' + 1, c) :: q' := e'
  by_cases hbc : b = c
  ·subst hbc
   show (runs (b :: (b :: (r ++ v)))).length + 1 = (runs (b :: b :: r)).length + _
   rw [runs_more e, runs_more e']
   rw [e, e''] at ih
   simp at ih ⊢
   omega
  ·show (runs (b :: (c :: (r ++ v)))).length + 1 = (runs (b :: c :: r)).length + _
   have g1 : runs (b :: (c :: (r ++ v))) = (1, b) :: runs (c :: (r ++ v)) := runs_new (by simp; exact fun z => hbc z.symm)
   have g2 : runs (b :: c :: r) = (1, b) :: runs (c :: r) := runs_new (by simp; exact fun z => hbc z.symm)
   rw [g1, g2, e']
   rw [e''] at ih
   simp at ih ⊢
   omega
def Never (u v : Row) : Prop := ∀ n, later n (u ++ v) = later n u ++ later n v
theorem never_iff {u v : Row} (hu : u ≠ []) : Never u v ↔ ∀ n, u.getLast? ≠ (later n v).head? := by
 refine ⟨fun h n z => ?_, fun h n => later_append n fun k _ => (apart_iff (later_ne hu k)).mpr (by rw [later_last]; exact h k)⟩
 have e1 := h n
 have e2 := h (n + 1)
 rw [later_succ, later_succ, later_succ, e1] at e2
 cases ea : u.getLast? with
 | none => exact absurd (List.getLast?_eq_none_iff.mp ea) hu
 | some a =>
  have t := runs_touch (u := later n u) (v := later n v) (a := a) (by rw [later_last]; exact ea) (by rw [<- z]; exact ea)
  have := congrArg List.length e2
  rw [List.length_append, aloud_length, aloud_length, aloud_length] at this
  omega
def P1 (l : Row) : Prop := ∃ x r, l = 1 :: x :: r /\ x ≠ 1 /\ r.head? ≠ some x
def P2 (l : Row) : Prop := ∃ x r, l = 1 :: 1 :: 1 :: x :: r /\ x ≠ 1
def P3 (l : Row) : Prop := ∃ m x r, l = 3 :: 1 :: m :: x :: r /\ x ≠ 1
theorem P1.next {l : Row} (h : P1 l) : P2 (aloud l) := by
 obtain ⟨x, r, rfl, hx, hr⟩ := h
 refine ⟨x, aloud r, ?_, hx⟩
 rw [aloud_eq, runs_new (by simpa using hx), runs_new hr]
 rfl
theorem P2.next {l : Row} (h : P2 l) : P3 (aloud l) := by
 obtain ⟨x, r, rfl, hx⟩ := h
 obtain ⟨k, q, e⟩ := runs_cons x r
 refine ⟨k + 1, x, fl q, ?_, hx⟩
 have e1 : runs (1 :: x :: r) = (1, 1) :: runs (x :: r) := runs_new (by simpa using hx)
 rw [aloud_eq, runs_more (runs_more e1), e]
 rfl
theorem P3.next {l : Row} (h : P3 l) : P1 (aloud l) := by
 obtain ⟨m, x, r, rfl, hx⟩ := h
 have e0 : ∀ t : Row, runs (3 :: 1 :: t) = (1, 3) :: runs (1 :: t) := fun t => runs_new (by simp)
 by_cases hm : m = 1
 ·subst hm
  have e1 : runs (1 :: x :: r) = (1, 1) :: runs (x :: r) := runs_new (by simpa using hx)
  refine ⟨3, 2 :: 1 :: fl (runs (x :: r)), ?_, by decide, by simp⟩
  rw [aloud_eq, e0, runs_more e1]
  rfl
 ·refine ⟨3, 1 :: 1 :: fl (runs (m :: x :: r)), ?_, by decide, by simp⟩
  rw [aloud_eq, e0, runs_new (by simpa using hm)]
  rfl
def PA (l : Row) : Prop := P1 l \/ P2 l \/ P3 l
theorem PA.next {l : Row} (h : PA l) : PA (aloud l) := by
 rcases h with h | h | h
 ·exact .inr (.inl h.next)
 ·exact .inr (.inr h.next)
 ·exact .inl h.next
theorem PA.head {l : Row} (h : PA l) : l.head? = some 1 \/ l.head? = some 3 := by
 rcases h with ⟨_, _, rfl, _⟩ | ⟨_, _, rfl, _⟩ | ⟨_, _, _, rfl, _⟩
 ·exact .inl rfl
 ·exact .inl rfl
 ·exact .inr rfl
def Round (l : Row) : Prop := PA l \/ l = [2, 2] \/ ∃ r, l = 2 :: 2 :: r /\ PA r
theorem Round.next {l : Row} (h : Round l) : Round (aloud l) := by
 rcases h with h | rfl | ⟨r, rfl, h⟩
 ·exact .inl h.next
 ·exact .inr (.inl rfl)
 ·refine .inr (.inr ⟨aloud r, ?_, h.next⟩)
  have hr : r.head? ≠ some 2 := by
   rcases h.head with e | e <;> (rw [e]; decide)
  have e1 : runs (2 :: r) = (1, 2) :: runs r := runs_new hr
  rw [aloud_eq, runs_more e1]
  rfl
theorem Round.later {l : Row} (h : Round l) : ∀ n, Round (later n l)
 | 0 => h
 | n + 1 => by rw [later_succ]; exact (h.later n).next
theorem PA.later {l : Row} (h : PA l) : ∀ n, PA (Rc75.later n l)
 | 0 => h
 | n + 1 => by rw [later_succ]; exact (h.later n).next
theorem Round.two {l r : Row} (h : Round l) (e : l = 2 :: r) : ∀ n, (Rc75.later n l).head? = some 2 := by
 have hB : l = [2, 2] \/ ∃ r, l = 2 :: 2 :: r /\ PA r := by
  rcases h with h | h
  ·rcases h.head with z | z <;> (rw [e] at z; simp at z)
  ·exact h
 have hB' : ∀ n, Rc75.later n l = [2, 2] \/ ∃ r, Rc75.later n l = 2 :: 2 :: r /\ PA r := by
  intro n
  induction n with
  | zero => exact hB
  | succ n ih =>
   rw [later_succ]
   rcases ih with z | ⟨r, z, p⟩
   ·rw [z]; exact .inl rfl
   ·rw [z]
    refine .inr ⟨Rc75.aloud r, ?_, p.next⟩
    have hr : r.head? ≠ some 2 := by
     rcases p.head with q | q <;> (rw [q]; decide)
    have e1 : runs (2 :: r) = (1, 2) :: runs r := runs_new hr
    rw [aloud_eq, runs_more e1]
    rfl
 intro n
 rcases hB' n with z | ⟨r, z, _⟩ <;> rw [z] <;> rfl
theorem Round.heads {l : Row} (h : Round l) (n : Nat) : ∃ m, m <= 2 /\ (Rc75.later n l).head? = (Rc75.later m l).head? := by
 by_cases h2 : ∃ r, l = 2 :: r
 ·obtain ⟨r, e⟩ := h2
  exact ⟨0, by decide, by rw [h.two e n, h.two e 0]⟩
 ·have hA : PA l := by
   rcases h with h | rfl | ⟨r, rfl, _⟩
   ·exact h
   ·exact absurd ⟨_, rfl⟩ h2
   ·exact absurd ⟨_, rfl⟩ h2
  have both : (∃ m, m <= 2 /\ (Rc75.later m l).head? = some 1) /\ ∃ m, m <= 2 /\ (Rc75.later m l).head? = some 3 := by
   rcases hA with p | p | p
   ·obtain ⟨_, _, _, e, _⟩ := p.next.next
    exact ⟨⟨0, by decide, by obtain ⟨_, _, rfl, _⟩ := p; rfl⟩, ⟨2, by decide, by show (aloud (aloud l)).head? = _; rw [e]; rfl⟩⟩
   ·obtain ⟨_, _, _, e, _⟩ := p.next
    exact ⟨⟨0, by decide, by obtain ⟨_, _, rfl, _⟩ := p; rfl⟩, ⟨1, by decide, by show (aloud l).head? = _; rw [e]; rfl⟩⟩
   ·obtain ⟨_, _, e, _⟩ := p.next
    exact ⟨⟨1, by decide, by show (aloud l).head? = _; rw [e]; rfl⟩, ⟨0, by decide, by obtain ⟨_, _, _, rfl, _⟩ := p; rfl⟩⟩
  obtain ⟨⟨m1, l1, e1⟩, ⟨m3, l3, e3⟩⟩ := both
  rcases (hA.later n).head with z | z
  ·exact ⟨m1, l1, by rw [z, e1]⟩
  ·exact ⟨m3, l3, by rw [z, e3]⟩
def paB (p : Row) (fin : Bool) : Bool := match p with
 | 1 :: 1 :: 1 :: x :: _ => x != 1
 | 1 :: x :: y :: _ => x != 1 && y != x
 | [1, x] => fin && x != 1
 | 3 :: 1 :: _ :: x :: _ => x != 1
 | _ => false
def roundB (p : Row) (fin : Bool) : Bool := paB p fin || match p with
 | 2 :: 2 :: r => (fin && r.isEmpty) || paB r fin
 | _ => false
theorem paB_ok {p : Row} {fin : Bool} (h : paB p fin = true) : ∀ r : Row, (fin = true -> r = []) -> PA (p ++ r) := by
 intro r hr
 unfold paB at h
 split at h
 ·exact .inr (.inl ⟨_, _, rfl, by simpa using h⟩)
 ·rename_i x y t _
  rw [Bool.and_eq_true] at h
  exact .inl ⟨x, y :: (t ++ r), rfl, by simpa using h.1, by simpa using h.2⟩
 ·rename_i x
  rw [Bool.and_eq_true] at h
  rw [hr h.1]
  exact .inl ⟨x, [], rfl, by simpa using h.2, by simp⟩
 ·exact .inr (.inr ⟨_, _, _, rfl, by simpa using h⟩)
 ·cases h
theorem roundB_ok {p : Row} {fin : Bool} (h : roundB p fin = true) : ∀ r : Row, (fin = true -> r = []) -> Round (p ++ r) := by
 intro r hr
 unfold roundB at h
 rw [Bool.or_eq_true] at h
 rcases h with h | h
 ·exact .inl (paB_ok h r hr)
 ·split at h
  ·rename_i t
   rw [Bool.or_eq_true, Bool.and_eq_true] at h
   rcases h with ⟨h1, h2⟩ | h
   ·rw [hr h1, List.isEmpty_iff.mp h2]
    exact .inr (.inl rfl)
   ·exact .inr (.inr ⟨t ++ r, rfl, paB_ok h r hr⟩)
  ·cases h
theorem runs_pre : ∀ (p r : Row), ∃ q, runs (p ++ r) = (runs p).dropLast ++ q
 | [], r => ⟨_, rfl⟩
 | [a], r => ⟨_, rfl⟩
 | a :: b :: p, r => by
  obtain ⟨q, hq⟩ := runs_pre (b :: p) r
  obtain ⟨k, t, e⟩ := runs_cons b p
  obtain ⟨k', t', e'⟩ := runs_cons b (p ++ r)
  have e'' : runs ((b :: p) ++ r) = (k' + 1, b) :: t' := e'
  by_cases hab : a = b
  ·subst hab
   have g : runs ((a :: a :: p) ++ r) = (k' + 1 + 1, a) :: t' := runs_more e'
   rw [g, runs_more e]
   cases t with
   | nil => exact ⟨_, rfl⟩
   | cons y t =>
    rw [e, e'', List.dropLast_cons₂] at hq
    have hh := hq
    rw [List.cons_append] at hh
    injection hh with h1 h2
    injection h1 with h1 _
    refine ⟨q, ?_⟩
    rw [List.dropLast_cons₂, List.cons_append, <- h2, h1]
  ·have g : runs ((a :: b :: p) ++ r) = (1, a) :: runs ((b :: p) ++ r) := runs_new (by simp; exact fun z => hab z.symm)
   rw [g, runs_new (by simp; exact fun z => hab z.symm), hq, e]
   exact ⟨q, by rw [List.dropLast_cons₂]; rfl⟩
def soonB : Nat -> Row -> Bool
 | 0, p => roundB p false
 | n + 1, p => roundB p false || soonB n (fl (runs p).dropLast)
theorem soonB_ok : ∀ (n : Nat) (p : Row), soonB n p = true -> ∀ r, Round (later n (p ++ r))
 | 0, p, h, r => roundB_ok h r (fun z => nomatch z)
 | n + 1, p, h, r => by
  unfold soonB at h
  rw [Bool.or_eq_true] at h
  rcases h with h | h
  ·exact (roundB_ok h r (fun z => nomatch z)).later _
  ·obtain ⟨q, hq⟩ := runs_pre p r
   show Round (later n (aloud (p ++ r)))
   rw [aloud_eq, hq, fl_append]
   exact soonB_ok n _ h _
def thereB : Nat -> Row -> Bool
 | 0, p => roundB p true
 | n + 1, p => roundB p true || thereB n (aloud p)
theorem thereB_ok : ∀ (n : Nat) (p : Row), thereB n p = true -> Round (later n p)
 | 0, p, h => by
  have := roundB_ok h [] (fun _ => rfl)
  rwa [List.append_nil] at this
 | n + 1, p, h => by
  unfold thereB at h
  rw [Bool.or_eq_true] at h
  rcases h with h | h
  ·have := roundB_ok h [] (fun _ => rfl)
   rw [List.append_nil] at this
   exact this.later _
  ·exact thereB_ok n _ h
def nine : List Nat := [1, 2, 3, 4, 5, 6, 7, 8, 9]
def casesB : Nat -> Row -> Nat -> Bool
 | 0, p, _ => soonB 6 p
 | m + 1, p, b => soonB 6 p || (thereB 6 p && nine.all fun c => soonB 6 (p ++ [c]) || nine.all fun d => d == b || casesB m (p ++ [c, d]) d)
theorem mem_nine {x : Nat} (h : 1 <= x /\ x <= 9) : x ∈ nine := by
 unfold nine
 simp
 omega
theorem casesB_ok : ∀ (m : Nat) (p : Row) (b : Nat), casesB m p b = true -> ∀ (q : List (Nat × Nat)) (k : Nat), Adj ((k, b) :: q) -> (∀ x ∈ q, (1 <= x.1 /\ x.1 <= 9) /\ 1 <= x.2 /\ x.2 <= 9) -> Round (later 6 (p ++ fl q))
 | 0, p, b, h, q, k, _, _ => soonB_ok 6 p h _
 | m + 1, p, b, h, q, k, ha, hq => by
  unfold casesB at h
  rw [Bool.or_eq_true, Bool.and_eq_true] at h
  rcases h with h | ⟨h1, h2⟩
  ·exact soonB_ok 6 p h _
  ·cases q with
   | nil =>
    have := thereB_ok 6 p h1
    show Round (later 6 (p ++ []))
    rw [List.append_nil]
    exact this
   | cons x q =>
    obtain ⟨c, d⟩ := x
    have hx := hq (c, d) (by simp)
    have h3 := List.all_eq_true.mp h2 c (mem_nine hx.1)
    rw [Bool.or_eq_true] at h3
    rcases h3 with h3 | h3
    ·have := soonB_ok 6 _ h3 (d :: fl q)
     rw [List.append_assoc] at this
     exact this
    have h4 := List.all_eq_true.mp h3 d (mem_nine hx.2)
    rw [Bool.or_eq_true] at h4
    have h4 := h4.resolve_left fun z => ha.1 (beq_iff_eq.mp z).symm
    have := casesB_ok m _ d h4 q c ha.2 fun y hy => hq y (by simp [hy])
    rw [List.append_assoc] at this
    exact this
theorem ac_1 : (nine.all fun d => casesB 4 [1, d] d) = true := by decide +kernel
theorem ac_2 : (nine.all fun d => casesB 4 [2, d] d) = true := by decide +kernel
theorem ac_3 : (nine.all fun d => casesB 4 [3, d] d) = true := by decide +kernel
theorem ac_4 : (nine.all fun d => casesB 4 [4, d] d) = true := by decide +kernel
theorem ac_5 : (nine.all fun d => casesB 4 [5, d] d) = true := by decide +kernel
theorem ac_6 : (nine.all fun d => casesB 4 [6, d] d) = true := by decide +kernel
theorem ac_7 : (nine.all fun d => casesB 4 [7, d] d) = true := by decide +kernel
theorem ac_8 : (nine.all fun d => casesB 4 [8, d] d) = true := by decide +kernel
theorem ac_9 : (nine.all fun d => casesB 4 [9, d] d) = true := by decide +kernel
theorem all_off {α : Type} {p : α -> Bool} {a : α} {l : List α} (h : p a = true) (t : l.all p = true) : (a :: l).all p = true := by rw [List.all_cons, h, t]; rfl
theorem all_cases : (nine.all fun c => nine.all fun d => casesB 4 [c, d] d) = true := all_off (p := fun c => nine.all fun d => casesB 4 [c, d] d) ac_1 (all_off (p := fun c => nine.all fun d => casesB 4 [c, d] d) ac_2 (all_off (p := fun c => nine.all fun d => casesB 4 [c, d] d) ac_3 (all_off (p := fun c => nine.all fun d => casesB 4 [c, d] d) ac_4 (all_off (p := fun c => nine.all fun d => casesB 4 [c, d] d) ac_5 (all_off (p := fun c => nine.all fun d => casesB 4 [c, d] d) ac_6 (all_off (p := fun c => nine.all fun d => casesB 4 [c, d] d) ac_7 (all_off (p := fun c => nine.all fun d => casesB 4 [c, d] d) ac_8 (all_off (p := fun c => nine.all fun d => casesB 4 [c, d] d) ac_9 rfl))))))))
theorem round_week {v : Row} (hv : v ≠ []) (hp : Plain v) : Round (later 7 v) := by
 show Round (later 6 (aloud v))
 rw [aloud_eq]
 have ha := runs_adj v
 have hx : ∀ x ∈ runs v, (1 <= x.1 /\ x.1 <= 9) /\ 1 <= x.2 /\ x.2 <= 9 := fun x hx => ⟨⟨(runs_ge x hx).1, hp.2 x hx⟩, hp.1 _ (runs_ge x hx).2⟩
 cases e : runs v with
 | nil =>
  cases v with
  | nil => exact absurd rfl hv
  | cons a r =>
   obtain ⟨k, q, z⟩ := runs_cons a r
   rw [z] at e
   cases e
 | cons x q =>
  obtain ⟨c, d⟩ := x
  rw [e] at ha hx
  have h0 := hx (c, d) (by simp)
  have h1 := List.all_eq_true.mp (List.all_eq_true.mp all_cases c (mem_nine h0.1)) d (mem_nine h0.2)
  exact casesB_ok 4 [c, d] d h1 q c ha fun y hy => hx y (by simp [hy])
theorem heads_ten {v : Row} (hv : v ≠ []) (hp : Plain v) (n : Nat) : ∃ m, m <= 9 /\ (later n v).head? = (later m v).head? := by
 by_cases hn : n <= 9
 ·exact ⟨n, hn, rfl⟩
 ·obtain ⟨m, hm, e⟩ := (round_week hv hp).heads (n - 7)
  refine ⟨7 + m, by omega, ?_⟩
  rw [later_add, <- e, <- later_add, show 7 + (n - 7) = n from by omega]
theorem Plain.drop {l : Row} (h : Plain l) (k : Nat) : Plain (l.drop k) := by
 refine ⟨fun x hx => h.1 x (List.mem_of_mem_drop hx), ?_⟩
 induction k generalizing l with
 | zero => exact h.2
 | succ k ih =>
  cases l with
  | nil => simpa using h.2
  | cons a r =>
   refine ih (l := r) ⟨fun x hx => h.1 x (by simp [hx]), fun p hp => ?_⟩
   cases r with
   | nil => cases hp
   | cons b r =>
    obtain ⟨j, q, e⟩ := runs_cons b r
    by_cases hab : a = b
    ·subst hab
     have h2 := h.2
     rw [runs_more e] at h2
     rw [e] at hp
     rcases List.mem_cons.mp hp with rfl | z
     ·have := h2 (j + 1 + 1, a) (by simp)
      show j + 1 <= 9
      have this : j + 1 + 1 <= 9 := this
      omega
     ·exact h2 p (by simp [z])
    ·have h2 := h.2
     rw [runs_new (by simp; exact fun z => hab z.symm)] at h2
     exact h2 p (by simp [hp])
theorem never_days {u v : Row} (hu : u ≠ []) (hv : v ≠ []) (hp : Plain v) {N : Nat} (hN : 10 <= N) : Never u v ↔ ∀ n, n < N -> u.getLast? ≠ (later n v).head? := by
 rw [never_iff hu]
 refine ⟨fun h n _ => h n, fun h n => ?_⟩
 obtain ⟨m, hm, e⟩ := heads_ten hv hp n
 rw [e]
 exact h m (by omega)
theorem apartBy_iff {u v : Row} (hu : u ≠ []) (hv : v ≠ []) (hp : Plain v) : apartBy u v = true ↔ Never u v := by
 rw [never_days hu hv hp (N := 14) (by decide)]
 unfold apartBy
 rw [List.all_eq_true]
 refine ⟨fun h n hn => by simpa using h n (by simpa using hn), fun h n hn => by simpa using h n (by simpa using hn)⟩
end RA
end
section
namespace RA
open Rc75
def ab (x : Nat) : Nat := min x 4
def eat (s : Nat × Nat) (x : Nat) : (Nat × Nat) × List Nat :=
 if s.2 = 0 then ((x, 1), []) else if s.1 = x /\ x < 4 then ((x, s.2 + 1), []) else ((x, 1), [s.2, s.1])
def eats (s : Nat × Nat) : List Nat -> (Nat × Nat) × List Nat
 | [] => (s, [])
 | x :: r => ((eats (eat s x).1 r).1, (eat s x).2 ++ (eats (eat s x).1 r).2)
def left (s : Nat × Nat) : List Nat := if s.2 = 0 then [] else [s.2, s.1]
def ends (s : Nat × Nat) (l : List Nat) : List Nat := (eats s l).2 ++ left (eats s l).1
def say (l : List Nat) : List Nat := ends (0, 0) l
def Iso : Row -> Prop
 | a :: b :: r => (a = b -> a < 4) /\ Iso (b :: r)
 | _ => True
def fits (s : Nat × Nat) : List Nat -> Prop
 | [] => True
 | x :: r => (1 <= x /\ x <= 4) /\ (eat s x).1.2 <= 3 /\ fits (eat s x).1 r
structure Calm (l : Row) : Prop where
 iso : Iso l
 three : ∀ p ∈ runs l, p.1 <= 3
 pos : ∀ x ∈ l, 1 <= x
theorem ab_le (x : Nat) : ab x <= 4 := Nat.min_le_right _ _
theorem ab_ge {x : Nat} (h : 1 <= x) : 1 <= ab x := by unfold ab; omega
theorem ab_small {x : Nat} (h : x <= 3) : ab x = x := by unfold ab; omega
theorem ab_eq {x y : Nat} (h : x < 4) (e : ab y = ab x) : y = x := by unfold ab at e; omega
theorem runs_reps (d k : Nat) (x : Nat) (r : Row) (h : d ≠ x) : runs (List.replicate (k + 1) d ++ x :: r) = (k + 1, d) :: runs (x :: r) := by
 have ha : Apart (List.replicate (k + 1) d) (x :: r) := by
  intro a e z
  have e' : a = d := by
   have := List.mem_of_getLast? e
   exact List.eq_of_mem_replicate this
  subst e'
  simp at z
  exact h z.symm
 rw [runs_append ha, runs_rep]
 rfl
theorem say_gen : ∀ (l : Row) (d k : Nat), Iso (d :: l) -> (∀ p ∈ runs (List.replicate (k + 1) d ++ l), p.1 <= 3) -> (∀ x ∈ l, 1 <= x) ->
  ends (ab d, k + 1) (l.map ab) = (fl (runs (List.replicate (k + 1) d ++ l))).map ab /\ fits (ab d, k + 1) (l.map ab)
 | [], d, k, _, h3, _ => by
  rw [List.append_nil] at h3 ⊢
  rw [runs_rep] at h3 ⊢
  have hk := h3 (k + 1, d) (by simp)
  refine ⟨?_, trivial⟩
  show left (ab d, k + 1) = [ab (k + 1), ab d]
  rw [ab_small hk]
  rfl
 | x :: r, d, k, hi, h3, hp => by
  have hx := hp x (by simp)
  have hx4 : 1 <= ab x /\ ab x <= 4 := ⟨ab_ge hx, ab_le x⟩
  by_cases hd : d = x
  ·subst hd
   have h4 : d < 4 := hi.1 rfl
   have e1 : List.replicate (k + 1) d ++ d :: r = List.replicate (k + 1 + 1) d ++ r := by
    rw [List.replicate_succ' (n := k + 1), List.append_assoc]
    rfl
   rw [e1] at h3 ⊢
   obtain ⟨g1, g2⟩ := say_gen r d (k + 1) hi.2 h3 fun y hy => hp y (by simp [hy])
   have ea : eat (ab d, k + 1) (ab d) = ((ab d, k + 1 + 1), []) := by
    unfold eat
    rw [if_neg (by show ¬ (k + 1 = 0); omega), if_pos ⟨rfl, by rw [ab_small (by omega)]; exact h4⟩]
   have hk : k + 1 + 1 <= 3 := by
    have hh : (runs (List.replicate (k + 1 + 1) d ++ r)) ≠ [] -> True := fun _ => trivial
    have : ∀ (m : Nat) (r : Row), ∃ j q, runs (List.replicate (m + 1) d ++ r) = (m + 1 + j, d) :: q := by
     intro m
     induction m with
     | zero =>
      intro r
      obtain ⟨j, q, e⟩ := runs_cons d r
      exact ⟨j, q, by show runs (d :: r) = _; rw [e, Nat.add_comm]⟩
     | succ m ih =>
      intro r
      obtain ⟨j, q, e⟩ := ih r
      refine ⟨j, q, ?_⟩
      rw [List.replicate_succ]
      show runs (d :: (List.replicate (m + 1) d ++ r)) = _
      rw [runs_more e]
      congr 2
      omega
    obtain ⟨j, q, e⟩ := this (k + 1) r
    have := h3 (k + 1 + 1 + j, d) (by rw [e]; simp)
    have this : k + 1 + 1 + j <= 3 := this
    omega
   refine ⟨?_, ?_⟩
   ·rw [<- g1]
    show (eat (ab d, k + 1) (ab d)).2 ++ (eats (eat (ab d, k + 1) (ab d)).1 (r.map ab)).2 ++ left (eats (eat (ab d, k + 1) (ab d)).1 (r.map ab)).1 = _
    rw [ea]
    rfl
   ·show (1 <= ab d /\ ab d <= 4) /\ (eat (ab d, k + 1) (ab d)).1.2 <= 3 /\ fits (eat (ab d, k + 1) (ab d)).1 (r.map ab)
    rw [ea]
    exact ⟨hx4, hk, g2⟩
  ·rw [runs_reps d k x r hd] at h3 ⊢
   have hk := h3 (k + 1, d) (by simp)
   obtain ⟨g1, g2⟩ := say_gen r x 0 hi.2 (fun p hp' => h3 p (by simp only [List.mem_cons]; exact .inr hp')) fun y hy => hp y (by simp [hy])
   have ea : eat (ab d, k + 1) (ab x) = ((ab x, 1), [k + 1, ab d]) := by
    unfold eat
    rw [if_neg (by show ¬ (k + 1 = 0); omega), if_neg]
    rintro ⟨e1, e2⟩
    have e1 : ab d = ab x := e1
    have : x < 4 := by unfold ab at e2; omega
    exact hd (ab_eq this e1)
   refine ⟨?_, ?_⟩
   ·show (eat (ab d, k + 1) (ab x)).2 ++ (eats (eat (ab d, k + 1) (ab x)).1 (r.map ab)).2 ++ left (eats (eat (ab d, k + 1) (ab x)).1 (r.map ab)).1 = _
    rw [ea, fl_cons]
    show [k + 1, ab d] ++ (eats (ab x, 1) (r.map ab)).2 ++ left (eats (ab x, 1) (r.map ab)).1 = ab (k + 1) :: ab d :: (fl (runs (x :: r))).map ab
    rw [List.append_assoc, ab_small hk]
    have g1' : (eats (ab x, 1) (r.map ab)).2 ++ left (eats (ab x, 1) (r.map ab)).1 = (fl (runs (x :: r))).map ab := g1
    rw [g1']
    rfl
   ·show (1 <= ab x /\ ab x <= 4) /\ (eat (ab d, k + 1) (ab x)).1.2 <= 3 /\ fits (eat (ab d, k + 1) (ab x)).1 (r.map ab)
    rw [ea]
    exact ⟨hx4, (by show 1 <= 3; decide), g2⟩
theorem Calm.say {l : Row} (h : Calm l) : say (l.map ab) = (aloud l).map ab /\ fits (0, 0) (l.map ab) := by
 cases l with
 | nil => exact ⟨rfl, trivial⟩
 | cons d r =>
  obtain ⟨g1, g2⟩ := say_gen r d 0 h.iso h.three fun x hx => h.pos x (by simp [hx])
  exact ⟨g1, ⟨ab_ge (h.pos d (by simp)), ab_le d⟩, (by show 1 <= 3; decide), g2⟩
theorem iso_fl : ∀ q : List (Nat × Nat), (∀ x ∈ q, x.1 <= 3) -> Iso (fl q)
 | [], _ => trivial
 | [(c, d)], h => ⟨fun e => by have := h (c, d) (by simp); have this : c <= 3 := this; omega, trivial⟩
 | (c, d) :: (e, f) :: q, h => by
  have h1 : c <= 3 := h (c, d) (by simp)
  have h2 : e <= 3 := h (e, f) (by simp)
  exact ⟨fun z => by omega, fun z => by omega, iso_fl ((e, f) :: q) fun x hx => h x (by simp at hx ⊢; exact .inr hx)⟩
theorem Calm.next {l : Row} (h : Calm l) : Calm (aloud l) := by
 refine ⟨?_, aloud_runs3 l, fun x hx => ?_⟩
 ·rw [aloud_eq]
  exact iso_fl _ h.three
 ·rw [aloud_eq] at hx
  obtain ⟨q, hq, e⟩ := mem_fl hx
  have := runs_ge q hq
  rcases e with e | e
  ·rw [e]; exact this.1
  ·rw [e]; exact h.pos _ this.2
theorem Calm.later {l : Row} (h : Calm l) : ∀ n, Calm (later n l)
 | 0 => h
 | n + 1 => by rw [later_succ]; exact (h.later n).next
theorem calm_two {v : Row} (h : Plain v) : Calm (later 2 v) := by
 show Calm (aloud (aloud v))
 have hp := h.aloud
 refine ⟨?_, aloud_runs3 _, fun x hx => ?_⟩
 ·rw [aloud_eq (aloud v)]
  exact iso_fl _ (aloud_runs3 v)
 ·exact (hp.aloud.1 x hx).1
def pass : List (Nat × Nat) -> List Nat -> List (Nat × Nat) × List Nat
 | [], xs => ([], [xs.length])
 | s :: ss, xs => ((eats s xs).1 :: (pass ss (eats s xs).2).1, xs.length :: (pass ss (eats s xs).2).2)
def shut : List (Nat × Nat) -> List Nat -> List Nat
 | [], xs => [xs.length]
 | s :: ss, xs => xs.length :: shut ss (ends s xs)
def plus (a b : List Nat) : List Nat := List.zipWith (· + ·) a b
theorem eats_append : ∀ (s : Nat × Nat) (xs ys : List Nat), eats s (xs ++ ys) = ((eats (eats s xs).1 ys).1, (eats s xs).2 ++ (eats (eats s xs).1 ys).2)
 | s, [], ys => rfl
 | s, x :: r, ys => by
  show ((eats (eat s x).1 (r ++ ys)).1, (eat s x).2 ++ (eats (eat s x).1 (r ++ ys)).2) = _
  rw [eats_append (eat s x).1 r ys]
  show _ = ((eats (eats (eat s x).1 r).1 ys).1, ((eat s x).2 ++ (eats (eat s x).1 r).2) ++ (eats (eats (eat s x).1 r).1 ys).2)
  rw [List.append_assoc]
theorem shut_append : ∀ (ss : List (Nat × Nat)) (xs ys : List Nat), shut ss (xs ++ ys) = plus (pass ss xs).2 (shut (pass ss xs).1 ys)
 | [], xs, ys => by
  show [(xs ++ ys).length] = [xs.length + ys.length]
  rw [List.length_append]
 | s :: ss, xs, ys => by
  show (xs ++ ys).length :: shut ss (ends s (xs ++ ys)) = (xs.length + ys.length) :: plus (pass ss (eats s xs).2).2 (shut (pass ss (eats s xs).2).1 (ends (eats s xs).1 ys))
  rw [List.length_append, <- shut_append ss]
  congr 2
  unfold ends
  rw [eats_append, List.append_assoc]
inductive Tr where
 | e
 | n (l : Tr) (k v : Nat) (r : Tr)
def Tr.look : Tr -> Nat -> Option Nat
 | .e, _ => none
 | .n l k v r, x => if x = k then some v else if x < k then l.look x else r.look x
def Tr.all (p : Nat -> Nat -> Bool) : Tr -> Bool
 | .e => true
 | .n l k v r => p k v && (l.all p && r.all p)
theorem Tr.all_look {p : Nat -> Nat -> Bool} : ∀ {t : Tr} {k v : Nat}, t.all p = true -> t.look k = some v -> p k v = true
 | .e, _, _, _, h => by cases h
 | .n l k' v' r, k, v, ha, h => by
  unfold Tr.all at ha
  rw [Bool.and_eq_true, Bool.and_eq_true] at ha
  unfold Tr.look at h
  by_cases e : k = k'
  ·rw [if_pos e] at h
   cases h
   rw [e]
   exact ha.1
  ·rw [if_neg e] at h
   by_cases e2 : k < k'
   ·rw [if_pos e2] at h
    exact Tr.all_look ha.2.1 h
   ·rw [if_neg e2] at h
    exact Tr.all_look ha.2.2 h
def undo (k : Nat) : List (Nat × Nat) := [(k % 32 / 4, k % 4), (k / 32 % 32 / 4, k / 32 % 4), (k / 1024 % 32 / 4, k / 1024 % 4), (k / 32768 % 32 / 4, k / 32768 % 4), (k / 1048576 / 4, k / 1048576 % 4)]
def mark : List (Nat × Nat) -> Nat
 | [] => 0
 | s :: ss => s.1 * 4 + s.2 + 32 * mark ss
def lhs (c : List Nat) : Nat := 2 * c.getD 5 0
def rhs (c : List Nat) : Nat := c.getD 1 0 + 3 * c.getD 2 0 + c.getD 4 0
def stepB (t : Tr) (ss : List (Nat × Nat)) (v x : Nat) : Bool :=
 match t.look (mark (pass ss [x]).1) with
 | some v' => Nat.ble (lhs (pass ss [x]).2 + v) (rhs (pass ss [x]).2 + v') && (undo (mark (pass ss [x]).1) == (pass ss [x]).1)
 | none => false
def goodB (t : Tr) (k v : Nat) : Bool :=
 Nat.ble (lhs (shut (undo k) []) + v) (rhs (shut (undo k) []) + 26) &&
 [1, 2, 3, 4].all fun x => Nat.ble 4 (eat ((undo k).headD (0, 0)) x).1.2 || stepB t (undo k) v x
abbrev Tr.o (a b : Nat) : Tr := .n .e a b .e
def tree : Tr := (.n (.n (.n (.n (.n (.n (.n (.n (.n (.n (.o 0 22) 5 22 .e) 6 22 (.n (.o 7 22) 9 22 .e)) 10 22 (.n (.n (.o 11 22) 13 22 .e) 14 22 (.n (.o 15 22) 17 22 .e))) 201 20 (.n (.n (.n (.o 202 20) 203 20 .e) 205 20 (.n (.o 206 20) 207 20 .e)) 209 20 (.n (.n (.o 325 20) 326 20 .e) 327 20 (.o 333 20)))) 334 20 (.n (.n (.n (.n (.o 335 20) 337 20 .e) 453 20 (.n (.o 454 20) 455 20 .e)) 457 20 (.n (.n (.o 458 20) 459 20 .e) 465 20 (.n (.o 6437 14) 6438 14 .e))) 6439 14 (.n (.n (.n (.o 6445 14) 6446 14 .e) 6447 14 (.n (.o 6449 14) 6565 14 .e)) 6566 14 (.n (.n (.o 6567 14) 6569 14 .e) 6570 14 (.o 6571 14))))) 6577 14 (.n (.n (.n (.n (.n (.o 6693 14) 6694 14 .e) 6695 14 (.n (.o 6697 14) 6698 14 .e)) 6699 14 (.n (.n (.o 6701 14) 6702 14 .e) 6703 14 (.n (.o 6705 14) 10441 12 .e))) 10442 12 (.n (.n (.n (.o 10443 12) 10445 12 .e) 10446 12 (.n (.o 10447 12) 10449 12 .e)) 10693 12 (.n (.n (.o 10694 12) 10695 12 .e) 10697 12 (.o 10698 12)))) 10699 12 (.n (.n (.n (.n (.o 10705 12) 14505 12 .e) 14506 12 (.n (.o 14507 12) 14509 12 .e)) 14510 12 (.n (.n (.o 14511 12) 14513 12 .e) 14629 12 (.n (.o 14630 12) 14631 12 .e))) 14637 12 (.n (.n (.n (.o 14638 12) 14639 12 .e) 14641 12 (.n (.o 205993 14) 205994 14 .e)) 205995 14 (.n (.n (.o 205997 14) 205998 14 .e) 205999 14 (.o 206001 14)))))) 206245 14 (.n (.n (.n (.n (.n (.n (.o 206246 14) 206247 14 .e) 206249 14 (.n (.o 206250 14) 206251 14 .e)) 206257 14 (.n (.n (.o 210089 14) 210090 14 .e) 210091 14 (.n (.o 210093 14) 210094 14 .e))) 210095 14 (.n (.n (.n (.o 210097 14) 210213 14 .e) 210214 14 (.n (.o 210215 14) 210221 14 .e)) 210222 14 (.n (.n (.o 210223 14) 210225 14 .e) 334245 6 (.o 334246 6)))) 334247 6 (.n (.n (.n (.n (.o 334249 6) 334250 6 .e) 334251 6 (.n (.o 334257 6) 334373 6 .e)) 334374 6 (.n (.n (.o 334375 6) 334377 6 .e) 334378 6 (.n (.o 334379 6) 334381 6 .e))) 334382 6 (.n (.n (.n (.o 334383 6) 334385 6 .e) 342185 4 (.n (.o 342186 4) 342187 4 .e)) 342189 4 (.n (.n (.o 342190 4) 342191 4 .e) 342193 4 (.o 342309 4))))) 342310 4 (.n (.n (.n (.n (.n (.o 342311 4) 342317 4 .e) 342318 4 (.n (.o 342319 4) 342321 4 .e)) 5544261 8 (.n (.n (.o 5544262 8) 5544263 8 .e) 5544269 8 (.n (.o 5544270 8) 5544271 8 .e))) 5544273 8 (.n (.n (.n (.o 5544357 8) 5544358 8 .e) 5544359 8 (.n (.o 5544361 8) 5544362 8 .e)) 5544363 8 (.n (.n (.o 5544369 8) 5544389 8 .e) 5544390 8 (.o 5544391 8)))) 5544393 8 (.n (.n (.n (.n (.o 5544394 8) 5544395 8 .e) 5544401 8 (.n (.o 5544485 8) 5544486 8 .e)) 5544487 8 (.n (.n (.o 5544489 8) 5544490 8 .e) 5544491 8 (.o 5544493 8))) 5544494 8 (.n (.n (.n (.o 5544495 8) 5544497 8 .e) 5551273 14 (.n (.o 5551274 14) 5551275 14 .e)) 5551277 14 (.n (.n (.o 5551278 14) 5551279 14 .e) 5551281 14 (.o 5551305 12))))))) 5551306 12 (.n (.n (.n (.n (.n (.n (.n (.o 5551307 12) 5551309 12 .e) 5551310 12 (.n (.o 5551311 12) 5551313 12 .e)) 5551397 14 (.n (.n (.o 5551398 14) 5551399 14 .e) 5551405 14 (.n (.o 5551406 14) 5551407 14 .e))) 5551409 14 (.n (.n (.n (.o 5551429 12) 5551430 12 .e) 5551431 12 (.n (.o 5551437 12) 5551438 12 .e)) 5551439 12 (.n (.n (.o 5551441 12) 5552297 6 .e) 5552298 6 (.o 5552299 6)))) 5552301 6 (.n (.n (.n (.n (.o 5552302 6) 5552303 6 .e) 5552305 6 (.n (.o 5552421 6) 5552422 6 .e)) 5552423 6 (.n (.n (.o 5552429 6) 5552430 6 .e) 5552431 6 (.n (.o 5552433 6) 5575973 10 .e))) 5575974 10 (.n (.n (.n (.o 5575975 10) 5575981 10 .e) 5575982 10 (.n (.o 5575983 10) 5575985 10 .e)) 5576005 10 (.n (.n (.o 5576006 10) 5576007 10 .e) 5576013 10 (.o 5576014 10))))) 5576015 10 (.n (.n (.n (.n (.n (.o 5576017 10) 5576101 10 .e) 5576102 10 (.n (.o 5576103 10) 5576105 10 .e)) 5576106 10 (.n (.n (.o 5576107 10) 5576113 10 .e) 5576133 10 (.n (.o 5576134 10) 5576135 10 .e))) 5576137 10 (.n (.n (.n (.o 5576138 10) 5576139 10 .e) 5576145 10 (.n (.o 5576229 10) 5576230 10 .e)) 5576231 10 (.n (.n (.o 5576233 10) 5576234 10 .e) 5576235 10 (.o 5576237 10)))) 5576238 10 (.n (.n (.n (.n (.o 5576239 10) 5576241 10 .e) 5577029 4 (.n (.o 5577030 4) 5577031 4 .e)) 5577037 4 (.n (.n (.o 5577038 4) 5577039 4 .e) 5577041 4 (.n (.o 5577125 2) 5577126 2 .e))) 5577127 2 (.n (.n (.n (.o 5577129 2) 5577130 2 .e) 5577131 2 (.n (.o 5577137 2) 5577157 4 .e)) 5577158 4 (.n (.n (.o 5577159 4) 5577161 4 .e) 5577162 4 (.o 5577163 4)))))) 5577169 4 (.n (.n (.n (.n (.n (.n (.o 5577253 2) 5577254 2 .e) 5577255 2 (.n (.o 5577257 2) 5577258 2 .e)) 5577259 2 (.n (.n (.o 5577261 2) 5577262 2 .e) 5577263 2 (.n (.o 5577265 2) 5584041 8 .e))) 5584042 8 (.n (.n (.n (.o 5584043 8) 5584045 8 .e) 5584046 8 (.n (.o 5584047 8) 5584049 8 .e)) 5584073 10 (.n (.n (.o 5584074 10) 5584075 10 .e) 5584077 10 (.o 5584078 10)))) 5584079 10 (.n (.n (.n (.n (.o 5584081 10) 5584165 8 .e) 5584166 8 (.n (.o 5584167 8) 5584173 8 .e)) 5584174 8 (.n (.n (.o 5584175 8) 5584177 8 .e) 5584197 10 (.n (.o 5584198 10) 5584199 10 .e))) 5584205 10 (.n (.n (.n (.o 5584206 10) 5584207 10 .e) 5584209 10 (.n (.o 5585065 0) 5585066 0 .e)) 5585067 0 (.n (.n (.o 5585069 0) 5585070 0 .e) 5585071 0 (.o 5585073 0))))) 5585189 0 (.n (.n (.n (.n (.n (.o 5585190 0) 5585191 0 .e) 5585197 0 (.n (.o 5585198 0) 5585199 0 .e)) 5585201 0 (.n (.n (.o 5675301 10) 5675302 10 .e) 5675303 10 (.n (.o 5675309 10) 5675310 10 .e))) 5675311 10 (.n (.n (.n (.o 5675313 10) 5675333 8 .e) 5675334 8 (.n (.o 5675335 8) 5675341 8 .e)) 5675342 8 (.n (.n (.o 5675343 8) 5675345 8 .e) 5675461 8 (.o 5675462 8)))) 5675463 8 (.n (.n (.n (.n (.o 5675465 8) 5675466 8 .e) 5675467 8 (.n (.o 5675473 8) 5675557 10 .e)) 5675558 10 (.n (.n (.o 5675559 10) 5675561 10 .e) 5675562 10 (.o 5675563 10))) 5675565 10 (.n (.n (.n (.o 5675566 10) 5675567 10 .e) 5675569 10 (.n (.o 5678249 12) 5678250 12 .e)) 5678251 12 (.n (.n (.o 5678253 12) 5678254 12 .e) 5678255 12 (.o 5678257 12)))))))) 5678501 12 (.n (.n (.n (.n (.n (.n (.n (.n (.o 5678502 12) 5678503 12 .e) 5678505 12 (.n (.o 5678506 12) 5678507 12 .e)) 5678513 12 (.n (.n (.o 5679273 8) 5679274 8 .e) 5679275 8 (.n (.o 5679277 8) 5679278 8 .e))) 5679279 8 (.n (.n (.n (.o 5679281 8) 5679305 8 .e) 5679306 8 (.n (.o 5679307 8) 5679309 8 .e)) 5679310 8 (.n (.n (.o 5679311 8) 5679313 8 .e) 5679525 8 (.o 5679526 8)))) 5679527 8 (.n (.n (.n (.n (.o 5679529 8) 5679530 8 .e) 5679531 8 (.n (.o 5679537 8) 5679557 8 .e)) 5679558 8 (.n (.n (.o 5679559 8) 5679561 8 .e) 5679562 8 (.n (.o 5679563 8) 5679569 8 .e))) 5806373 8 (.n (.n (.n (.o 5806374 8) 5806375 8 .e) 5806381 8 (.n (.o 5806382 8) 5806383 8 .e)) 5806385 8 (.n (.n (.o 5806501 8) 5806502 8 .e) 5806503 8 (.o 5806505 8))))) 5806506 8 (.n (.n (.n (.n (.n (.o 5806507 8) 5806513 8 .e) 5806629 8 (.n (.o 5806630 8) 5806631 8 .e)) 5806633 8 (.n (.n (.o 5806634 8) 5806635 8 .e) 5806637 8 (.n (.o 5806638 8) 5806639 8 .e))) 5806641 8 (.n (.n (.n (.o 5810377 6) 5810378 6 .e) 5810379 6 (.n (.o 5810381 6) 5810382 6 .e)) 5810383 6 (.n (.n (.o 5810385 6) 5810629 6 .e) 5810630 6 (.o 5810631 6)))) 5810633 6 (.n (.n (.n (.n (.o 5810634 6) 5810635 6 .e) 5810641 6 (.n (.o 5814441 6) 5814442 6 .e)) 5814443 6 (.n (.n (.o 5814445 6) 5814446 6 .e) 5814447 6 (.n (.o 5814449 6) 5814565 6 .e))) 5814566 6 (.n (.n (.n (.o 5814567 6) 5814573 6 .e) 5814574 6 (.n (.o 5814575 6) 5814577 6 .e)) 6591781 14 (.n (.n (.o 6591782 14) 6591783 14 .e) 6591789 14 (.o 6591790 14)))))) 6591791 14 (.n (.n (.n (.n (.n (.n (.o 6591793 14) 6591813 12 .e) 6591814 12 (.n (.o 6591815 12) 6591821 12 .e)) 6591822 12 (.n (.n (.o 6591823 12) 6591825 12 .e) 6591909 14 (.n (.o 6591910 14) 6591911 14 .e))) 6591913 14 (.n (.n (.n (.o 6591914 14) 6591915 14 .e) 6591921 14 (.n (.o 6591941 12) 6591942 12 .e)) 6591943 12 (.n (.n (.o 6591945 12) 6591946 12 .e) 6591947 12 (.o 6591953 12)))) 6592037 14 (.n (.n (.n (.n (.o 6592038 14) 6592039 14 .e) 6592041 14 (.n (.o 6592042 14) 6592043 14 .e)) 6592045 14 (.n (.n (.o 6592046 14) 6592047 14 .e) 6592049 14 (.n (.o 6592837 8) 6592838 8 .e))) 6592839 8 (.n (.n (.n (.o 6592845 8) 6592846 8 .e) 6592847 8 (.n (.o 6592849 8) 6592965 8 .e)) 6592966 8 (.n (.n (.o 6592967 8) 6592969 8 .e) 6592970 8 (.o 6592971 8))))) 6592977 8 (.n (.n (.n (.n (.n (.o 6599881 10) 6599882 10 .e) 6599883 10 (.n (.o 6599885 10) 6599886 10 .e)) 6599887 10 (.n (.n (.o 6599889 10) 6600005 10 .e) 6600006 10 (.n (.o 6600007 10) 6600013 10 .e))) 6600014 10 (.n (.n (.n (.o 6600015 10) 6600017 10 .e) 6624581 6 (.n (.o 6624582 6) 6624583 6 .e)) 6624589 6 (.n (.n (.o 6624590 6) 6624591 6 .e) 6624593 6 (.o 6624709 6)))) 6624710 6 (.n (.n (.n (.n (.o 6624711 6) 6624713 6 .e) 6624714 6 (.n (.o 6624715 6) 6624721 6 .e)) 6625605 4 (.n (.n (.o 6625606 4) 6625607 4 .e) 6625613 4 (.o 6625614 4))) 6625615 4 (.n (.n (.n (.o 6625617 4) 6625701 6 .e) 6625702 6 (.n (.o 6625703 6) 6625705 6 .e)) 6625706 6 (.n (.n (.o 6625707 6) 6625713 6 .e) 6625733 4 (.o 6625734 4))))))) 6625735 4 (.n (.n (.n (.n (.n (.n (.n (.o 6625737 4) 6625738 4 .e) 6625739 4 (.n (.o 6625745 4) 6625829 6 .e)) 6625830 6 (.n (.n (.o 6625831 6) 6625833 6 .e) 6625834 6 (.n (.o 6625835 6) 6625837 6 .e))) 6625838 6 (.n (.n (.n (.o 6625839 6) 6625841 6 .e) 6632617 4 (.n (.o 6632618 4) 6632619 4 .e)) 6632621 4 (.n (.n (.o 6632622 4) 6632623 4 .e) 6632625 4 (.o 6632649 6)))) 6632650 6 (.n (.n (.n (.n (.o 6632651 6) 6632653 6 .e) 6632654 6 (.n (.o 6632655 6) 6632657 6 .e)) 6632741 4 (.n (.n (.o 6632742 4) 6632743 4 .e) 6632749 4 (.n (.o 6632750 4) 6632751 4 .e))) 6632753 4 (.n (.n (.n (.o 6632773 6) 6632774 6 .e) 6632775 6 (.n (.o 6632781 6) 6632782 6 .e)) 6632783 6 (.n (.n (.o 6632785 6) 6633641 4 .e) 6633642 4 (.o 6633643 4))))) 6633645 4 (.n (.n (.n (.n (.n (.o 6633646 4) 6633647 4 .e) 6633649 4 (.n (.o 6633765 4) 6633766 4 .e)) 6633767 4 (.n (.n (.o 6633773 4) 6633774 4 .e) 6633775 4 (.n (.o 6633777 4) 6722853 10 .e))) 6722854 10 (.n (.n (.n (.o 6722855 10) 6722861 10 .e) 6722862 10 (.n (.o 6722863 10) 6722865 10 .e)) 6722981 10 (.n (.n (.o 6722982 10) 6722983 10 .e) 6722985 10 (.o 6722986 10)))) 6722987 10 (.n (.n (.n (.n (.o 6722993 10) 6723109 10 .e) 6723110 10 (.n (.o 6723111 10) 6723113 10 .e)) 6723114 10 (.n (.n (.o 6723115 10) 6723117 10 .e) 6723118 10 (.n (.o 6723119 10) 6723121 10 .e))) 6723877 10 (.n (.n (.n (.o 6723878 10) 6723879 10 .e) 6723885 10 (.n (.o 6723886 10) 6723887 10 .e)) 6723889 10 (.n (.n (.o 6723909 10) 6723910 10 .e) 6723911 10 (.o 6723917 10)))))) 6723918 10 (.n (.n (.n (.n (.n (.n (.o 6723919 10) 6723921 10 .e) 6724037 10 (.n (.o 6724038 10) 6724039 10 .e)) 6724041 10 (.n (.n (.o 6724042 10) 6724043 10 .e) 6724049 10 (.n (.o 6724133 10) 6724134 10 .e))) 6724135 10 (.n (.n (.n (.o 6724137 10) 6724138 10 .e) 6724139 10 (.n (.o 6724141 10) 6724142 10 .e)) 6724143 10 (.n (.n (.o 6724145 10) 6726825 10 .e) 6726826 10 (.o 6726827 10)))) 6726829 10 (.n (.n (.n (.n (.o 6726830 10) 6726831 10 .e) 6726833 10 (.n (.o 6727077 10) 6727078 10 .e)) 6727079 10 (.n (.n (.o 6727081 10) 6727082 10 .e) 6727083 10 (.n (.o 6727089 10) 6727849 10 .e))) 6727850 10 (.n (.n (.n (.o 6727851 10) 6727853 10 .e) 6727854 10 (.n (.o 6727855 10) 6727857 10 .e)) 6727881 8 (.n (.n (.o 6727882 8) 6727883 8 .e) 6727885 8 (.o 6727886 8))))) 6727887 8 (.n (.n (.n (.n (.n (.o 6727889 8) 6728101 10 .e) 6728102 10 (.n (.o 6728103 10) 6728105 10 .e)) 6728106 10 (.n (.n (.o 6728107 10) 6728113 10 .e) 6728133 8 (.n (.o 6728134 8) 6728135 8 .e))) 6728137 8 (.n (.n (.n (.o 6728138 8) 6728139 8 .e) 6728145 8 (.n (.o 9610441 12) 9610442 12 .e)) 9610443 12 (.n (.n (.o 9610445 12) 9610446 12 .e) 9610447 12 (.o 9610449 12)))) 9610661 10 (.n (.n (.n (.n (.o 9610662 10) 9610663 10 .e) 9610665 10 (.n (.o 9610666 10) 9610667 10 .e)) 9610673 10 (.n (.n (.o 9610693 12) 9610694 12 .e) 9610695 12 (.o 9610697 12))) 9610698 12 (.n (.n (.n (.o 9610699 12) 9610705 12 .e) 9611433 10 (.n (.o 9611434 10) 9611435 10 .e)) 9611437 10 (.n (.n (.o 9611438 10) 9611439 10 .e) 9611441 10 (.o 9611465 10))))))))) 9611466 10 (.n (.n (.n (.n (.n (.n (.n (.n (.n (.o 9611467 10) 9611469 10 .e) 9611470 10 (.n (.o 9611471 10) 9611473 10 .e)) 9611685 10 (.n (.n (.o 9611686 10) 9611687 10 .e) 9611689 10 (.n (.o 9611690 10) 9611691 10 .e))) 9611697 10 (.n (.n (.n (.o 9611717 10) 9611718 10 .e) 9611719 10 (.n (.o 9611721 10) 9611722 10 .e)) 9611723 10 (.n (.n (.o 9611729 10) 9614537 12 .e) 9614538 12 (.o 9614539 12)))) 9614541 12 (.n (.n (.n (.n (.o 9614542 12) 9614543 12 .e) 9614545 12 (.n (.o 9614629 10) 9614630 10 .e)) 9614631 10 (.n (.n (.o 9614637 10) 9614638 10 .e) 9614639 10 (.n (.o 9614641 10) 9614661 12 .e))) 9614662 12 (.n (.n (.n (.o 9614663 12) 9614669 12 .e) 9614670 12 (.n (.o 9614671 12) 9614673 12 .e)) 9615529 10 (.n (.n (.o 9615530 10) 9615531 10 .e) 9615533 10 (.o 9615534 10))))) 9615535 10 (.n (.n (.n (.n (.n (.o 9615537 10) 9615653 10 .e) 9615654 10 (.n (.o 9615655 10) 9615661 10 .e)) 9615662 10 (.n (.n (.o 9615663 10) 9615665 10 .e) 9618633 12 (.n (.o 9618634 12) 9618635 12 .e))) 9618637 12 (.n (.n (.n (.o 9618638 12) 9618639 12 .e) 9618641 12 (.n (.o 9618757 12) 9618758 12 .e)) 9618759 12 (.n (.n (.o 9618765 12) 9618766 12 .e) 9618767 12 (.o 9618769 12)))) 9618885 12 (.n (.n (.n (.n (.o 9618886 12) 9618887 12 .e) 9618889 12 (.n (.o 9618890 12) 9618891 12 .e)) 9618897 12 (.n (.n (.o 9644201 8) 9644202 8 .e) 9644203 8 (.n (.o 9644205 8) 9644206 8 .e))) 9644207 8 (.n (.n (.n (.o 9644209 8) 9644233 6 .e) 9644234 6 (.n (.o 9644235 6) 9644237 6 .e)) 9644238 6 (.n (.n (.o 9644239 6) 9644241 6 .e) 9644453 8 (.o 9644454 8)))))) 9644455 8 (.n (.n (.n (.n (.n (.n (.o 9644457 8) 9644458 8 .e) 9644459 8 (.n (.o 9644465 8) 9644485 6 .e)) 9644486 6 (.n (.n (.o 9644487 6) 9644489 6 .e) 9644490 6 (.n (.o 9644491 6) 9644497 6 .e))) 9647273 10 (.n (.n (.n (.o 9647274 10) 9647275 10 .e) 9647277 10 (.n (.o 9647278 10) 9647279 10 .e)) 9647281 10 (.n (.n (.o 9647305 10) 9647306 10 .e) 9647307 10 (.o 9647309 10)))) 9647310 10 (.n (.n (.n (.n (.o 9647311 10) 9647313 10 .e) 9647429 10 (.n (.o 9647430 10) 9647431 10 .e)) 9647437 10 (.n (.n (.o 9647438 10) 9647439 10 .e) 9647441 10 (.n (.o 9648297 6) 9648298 6 .e))) 9648299 6 (.n (.n (.n (.o 9648301 6) 9648302 6 .e) 9648303 6 (.n (.o 9648305 6) 9648421 6 .e)) 9648422 6 (.n (.n (.o 9648423 6) 9648429 6 .e) 9648430 6 (.o 9648431 6))))) 9648433 6 (.n (.n (.n (.n (.n (.o 9868581 8) 9868582 8 .e) 9868583 8 (.n (.o 9868589 8) 9868590 8 .e)) 9868591 8 (.n (.n (.o 9868593 8) 9868709 8 .e) 9868710 8 (.n (.o 9868711 8) 9868713 8 .e))) 9868714 8 (.n (.n (.n (.o 9868715 8) 9868721 8 .e) 9868837 8 (.n (.o 9868838 8) 9868839 8 .e)) 9868841 8 (.n (.n (.o 9868842 8) 9868843 8 .e) 9868845 8 (.o 9868846 8)))) 9868847 8 (.n (.n (.n (.n (.o 9868849 8) 9869637 6 .e) 9869638 6 (.n (.o 9869639 6) 9869645 6 .e)) 9869646 6 (.n (.n (.o 9869647 6) 9869649 6 .e) 9869765 6 (.o 9869766 6))) 9869767 6 (.n (.n (.n (.o 9869769 6) 9869770 6 .e) 9869771 6 (.n (.o 9869777 6) 9872553 8 .e)) 9872554 8 (.n (.n (.o 9872555 8) 9872557 8 .e) 9872558 8 (.o 9872559 8))))))) 9872561 8 (.n (.n (.n (.n (.n (.n (.n (.o 9872805 8) 9872806 8 .e) 9872807 8 (.n (.o 9872809 8) 9872810 8 .e)) 9872811 8 (.n (.n (.o 9872817 8) 9873577 6 .e) 9873578 6 (.n (.o 9873579 6) 9873581 6 .e))) 9873582 6 (.n (.n (.n (.o 9873583 6) 9873585 6 .e) 9873829 6 (.n (.o 9873830 6) 9873831 6 .e)) 9873833 6 (.n (.n (.o 9873834 6) 9873835 6 .e) 9873841 6 (.o 10659017 8)))) 10659018 8 (.n (.n (.n (.n (.o 10659019 8) 10659021 8 .e) 10659022 8 (.n (.o 10659023 8) 10659025 8 .e)) 10659237 8 (.n (.n (.o 10659238 8) 10659239 8 .e) 10659241 8 (.n (.o 10659242 8) 10659243 8 .e))) 10659249 8 (.n (.n (.n (.o 10659269 8) 10659270 8 .e) 10659271 8 (.n (.o 10659273 8) 10659274 8 .e)) 10659275 8 (.n (.n (.o 10659281 8) 10660041 2 .e) 10660042 2 (.o 10660043 2))))) 10660045 2 (.n (.n (.n (.n (.n (.o 10660046 2) 10660047 2 .e) 10660049 2 (.n (.o 10660293 2) 10660294 2 .e)) 10660295 2 (.n (.n (.o 10660297 2) 10660298 2 .e) 10660299 2 (.n (.o 10660305 2) 10663113 8 .e))) 10663114 8 (.n (.n (.n (.o 10663115 8) 10663117 8 .e) 10663118 8 (.n (.o 10663119 8) 10663121 8 .e)) 10663205 8 (.n (.n (.o 10663206 8) 10663207 8 .e) 10663213 8 (.o 10663214 8)))) 10663215 8 (.n (.n (.n (.n (.o 10663217 8) 10663237 8 .e) 10663238 8 (.n (.o 10663239 8) 10663245 8 .e)) 10663246 8 (.n (.n (.o 10663247 8) 10663249 8 .e) 10664105 2 (.n (.o 10664106 2) 10664107 2 .e))) 10664109 2 (.n (.n (.n (.o 10664110 2) 10664111 2 .e) 10664113 2 (.n (.o 10664229 2) 10664230 2 .e)) 10664231 2 (.n (.n (.o 10664237 2) 10664238 2 .e) 10664239 2 (.o 10664241 2)))))) 10667209 8 (.n (.n (.n (.n (.n (.n (.o 10667210 8) 10667211 8 .e) 10667213 8 (.n (.o 10667214 8) 10667215 8 .e)) 10667217 8 (.n (.n (.o 10667333 8) 10667334 8 .e) 10667335 8 (.n (.o 10667341 8) 10667342 8 .e))) 10667343 8 (.n (.n (.n (.o 10667345 8) 10667461 8 .e) 10667462 8 (.n (.o 10667463 8) 10667465 8 .e)) 10667466 8 (.n (.n (.o 10667467 8) 10667473 8 .e) 10692777 4 (.o 10692778 4)))) 10692779 4 (.n (.n (.n (.n (.o 10692781 4) 10692782 4 .e) 10692783 4 (.n (.o 10692785 4) 10692809 4 .e)) 10692810 4 (.n (.n (.o 10692811 4) 10692813 4 .e) 10692814 4 (.n (.o 10692815 4) 10692817 4 .e))) 10693029 4 (.n (.n (.n (.o 10693030 4) 10693031 4 .e) 10693033 4 (.n (.o 10693034 4) 10693035 4 .e)) 10693041 4 (.n (.n (.o 10693061 4) 10693062 4 .e) 10693063 4 (.o 10693065 4))))) 10693066 4 (.n (.n (.n (.n (.n (.o 10693067 4) 10693073 4 .e) 10695849 8 (.n (.o 10695850 8) 10695851 8 .e)) 10695853 8 (.n (.n (.o 10695854 8) 10695855 8 .e) 10695857 8 (.n (.o 10695881 6) 10695882 6 .e))) 10695883 6 (.n (.n (.n (.o 10695885 6) 10695886 6 .e) 10695887 6 (.n (.o 10695889 6) 10696005 6 .e)) 10696006 6 (.n (.n (.o 10696007 6) 10696013 6 .e) 10696014 6 (.o 10696015 6)))) 10696017 6 (.n (.n (.n (.n (.o 10696873 4) 10696874 4 .e) 10696875 4 (.n (.o 10696877 4) 10696878 4 .e)) 10696879 4 (.n (.n (.o 10696881 4) 10696997 4 .e) 10696998 4 (.o 10696999 4))) 10697005 4 (.n (.n (.n (.o 10697006 4) 10697007 4 .e) 10697009 4 (.n (.o 10917157 6) 10917158 6 .e)) 10917159 6 (.n (.n (.o 10917165 6) 10917166 6 .e) 10917167 6 (.o 10917169 6)))))))) 10917285 6 (.n (.n (.n (.n (.n (.n (.n (.n (.o 10917286 6) 10917287 6 .e) 10917289 6 (.n (.o 10917290 6) 10917291 6 .e)) 10917297 6 (.n (.n (.o 10917413 6) 10917414 6 .e) 10917415 6 (.n (.o 10917417 6) 10917418 6 .e))) 10917419 6 (.n (.n (.n (.o 10917421 6) 10917422 6 .e) 10917423 6 (.n (.o 10917425 6) 10918213 0 .e)) 10918214 0 (.n (.n (.o 10918215 0) 10918221 0 .e) 10918222 0 (.o 10918223 0)))) 10918225 0 (.n (.n (.n (.n (.o 10918341 0) 10918342 0 .e) 10918343 0 (.n (.o 10918345 0) 10918346 0 .e)) 10918347 0 (.n (.n (.o 10918353 0) 10921129 6 .e) 10921130 6 (.n (.o 10921131 6) 10921133 6 .e))) 10921134 6 (.n (.n (.n (.o 10921135 6) 10921137 6 .e) 10921381 6 (.n (.o 10921382 6) 10921383 6 .e)) 10921385 6 (.n (.n (.o 10921386 6) 10921387 6 .e) 10921393 6 (.o 10922153 0))))) 10922154 0 (.n (.n (.n (.n (.n (.o 10922155 0) 10922157 0 .e) 10922158 0 (.n (.o 10922159 0) 10922161 0 .e)) 10922405 0 (.n (.n (.o 10922406 0) 10922407 0 .e) 10922409 0 (.n (.o 10922410 0) 10922411 0 .e))) 10922417 0 (.n (.n (.n (.o 13804745 8) 13804746 8 .e) 13804747 8 (.n (.o 13804749 8) 13804750 8 .e)) 13804751 8 (.n (.n (.o 13804753 8) 13804965 10 .e) 13804966 10 (.o 13804967 10)))) 13804969 10 (.n (.n (.n (.n (.o 13804970 10) 13804971 10 .e) 13804977 10 (.n (.o 13804997 8) 13804998 8 .e)) 13804999 8 (.n (.n (.o 13805001 8) 13805002 8 .e) 13805003 8 (.n (.o 13805009 8) 13808841 8 .e))) 13808842 8 (.n (.n (.n (.o 13808843 8) 13808845 8 .e) 13808846 8 (.n (.o 13808847 8) 13808849 8 .e)) 13808933 10 (.n (.n (.o 13808934 10) 13808935 10 .e) 13808941 10 (.o 13808942 10)))))) 13808943 10 (.n (.n (.n (.n (.n (.n (.o 13808945 10) 13808965 8 .e) 13808966 8 (.n (.o 13808967 8) 13808973 8 .e)) 13808974 8 (.n (.n (.o 13808975 8) 13808977 8 .e) 13812937 8 (.n (.o 13812938 8) 13812939 8 .e))) 13812941 8 (.n (.n (.n (.o 13812942 8) 13812943 8 .e) 13812945 8 (.n (.o 13813061 8) 13813062 8 .e)) 13813063 8 (.n (.n (.o 13813069 8) 13813070 8 .e) 13813071 8 (.o 13813073 8)))) 13813189 8 (.n (.n (.n (.n (.o 13813190 8) 13813191 8 .e) 13813193 8 (.n (.o 13813194 8) 13813195 8 .e)) 13813201 8 (.n (.n (.o 13837481 12) 13837482 12 .e) 13837483 12 (.n (.o 13837485 12) 13837486 12 .e))) 13837487 12 (.n (.n (.n (.o 13837489 12) 13837513 12 .e) 13837514 12 (.n (.o 13837515 12) 13837517 12 .e)) 13837518 12 (.n (.n (.o 13837519 12) 13837521 12 .e) 13837765 12 (.o 13837766 12))))) 13837767 12 (.n (.n (.n (.n (.n (.o 13837769 12) 13837770 12 .e) 13837771 12 (.n (.o 13837777 12) 13838505 6 .e)) 13838506 6 (.n (.n (.o 13838507 6) 13838509 6 .e) 13838510 6 (.n (.o 13838511 6) 13838513 6 .e))) 13838757 6 (.n (.n (.n (.o 13838758 6) 13838759 6 .e) 13838761 6 (.n (.o 13838762 6) 13838763 6 .e)) 13838769 6 (.n (.n (.o 13931813 8) 13931814 8 .e) 13931815 8 (.o 13931821 8)))) 13931822 8 (.n (.n (.n (.n (.o 13931823 8) 13931825 8 .e) 13931845 6 (.n (.o 13931846 6) 13931847 6 .e)) 13931853 6 (.n (.n (.o 13931854 6) 13931855 6 .e) 13931857 6 (.o 13931941 8))) 13931942 8 (.n (.n (.n (.o 13931943 8) 13931945 8 .e) 13931946 8 (.n (.o 13931947 8) 13931953 8 .e)) 13931973 6 (.n (.n (.o 13931974 6) 13931975 6 .e) 13931977 6 (.o 13931978 6))))))) 13931979 6 (.n (.n (.n (.n (.n (.n (.n (.o 13931985 6) 13932069 8 .e) 13932070 8 (.n (.o 13932071 8) 13932073 8 .e)) 13932074 8 (.n (.n (.o 13932075 8) 13932077 8 .e) 13932078 8 (.n (.o 13932079 8) 13932081 8 .e))) 13939881 8 (.n (.n (.n (.o 13939882 8) 13939883 8 .e) 13939885 8 (.n (.o 13939886 8) 13939887 8 .e)) 13939889 8 (.n (.n (.o 13939913 6) 13939914 6 .e) 13939915 6 (.o 13939917 6)))) 13939918 6 (.n (.n (.n (.n (.o 13939919 6) 13939921 6 .e) 13940005 8 (.n (.o 13940006 8) 13940007 8 .e)) 13940013 8 (.n (.n (.o 13940014 8) 13940015 8 .e) 13940017 8 (.n (.o 13940037 6) 13940038 6 .e))) 13940039 6 (.n (.n (.n (.o 13940045 6) 13940046 6 .e) 13940047 6 (.n (.o 13940049 6) 13964581 6 .e)) 13964582 6 (.n (.n (.o 13964583 6) 13964589 6 .e) 13964590 6 (.o 13964591 6))))) 13964593 6 (.n (.n (.n (.n (.n (.o 13964709 6) 13964710 6 .e) 13964711 6 (.n (.o 13964713 6) 13964714 6 .e)) 13964715 6 (.n (.n (.o 13964721 6) 13964837 6 .e) 13964838 6 (.n (.o 13964839 6) 13964841 6 .e))) 13964842 6 (.n (.n (.n (.o 13964843 6) 13964845 6 .e) 13964846 6 (.n (.o 13964847 6) 13964849 6 .e)) 13965637 4 (.n (.n (.o 13965638 4) 13965639 4 .e) 13965645 4 (.o 13965646 4)))) 13965647 4 (.n (.n (.n (.n (.o 13965649 4) 13965733 4 .e) 13965734 4 (.n (.o 13965735 4) 13965737 4 .e)) 13965738 4 (.n (.n (.o 13965739 4) 13965745 4 .e) 13965765 4 (.o 13965766 4))) 13965767 4 (.n (.n (.n (.o 13965769 4) 13965770 4 .e) 13965771 4 (.n (.o 13965777 4) 13965861 4 .e)) 13965862 4 (.n (.n (.o 13965863 4) 13965865 4 .e) 13965866 4 (.o 13965867 4)))))) 13965869 4 (.n (.n (.n (.n (.n (.n (.o 13965870 4) 13965871 4 .e) 13965873 4 (.n (.o 13972649 6) 13972650 6 .e)) 13972651 6 (.n (.n (.o 13972653 6) 13972654 6 .e) 13972655 6 (.n (.o 13972657 6) 13972773 6 .e))) 13972774 6 (.n (.n (.n (.o 13972775 6) 13972781 6 .e) 13972782 6 (.n (.o 13972783 6) 13972785 6 .e)) 13973673 2 (.n (.n (.o 13973674 2) 13973675 2 .e) 13973677 2 (.o 13973678 2)))) 13973679 2 (.n (.n (.n (.n (.o 13973681 2) 13973797 2 .e) 13973798 2 (.n (.o 13973799 2) 13973805 2 .e)) 13973806 2 (.n (.n (.o 13973807 2) 13973809 2 .e) 18031785 10 (.n (.o 18031786 10) 18031787 10 .e))) 18031789 10 (.n (.n (.n (.o 18031790 10) 18031791 10 .e) 18031793 10 (.n (.o 18032037 10) 18032038 10 .e)) 18032039 10 (.n (.n (.o 18032041 10) 18032042 10 .e) 18032043 10 (.o 18032049 10))))) 18035881 10 (.n (.n (.n (.n (.n (.o 18035882 10) 18035883 10 .e) 18035885 10 (.n (.o 18035886 10) 18035887 10 .e)) 18035889 10 (.n (.n (.o 18036005 10) 18036006 10 .e) 18036007 10 (.n (.o 18036013 10) 18036014 10 .e))) 18036015 10 (.n (.n (.n (.o 18036017 10) 18160037 2 .e) 18160038 2 (.n (.o 18160039 2) 18160041 2 .e)) 18160042 2 (.n (.n (.o 18160043 2) 18160049 2 .e) 18160165 2 (.o 18160166 2)))) 18160167 2 (.n (.n (.n (.n (.o 18160169 2) 18160170 2 .e) 18160171 2 (.n (.o 18160173 2) 18160174 2 .e)) 18160175 2 (.n (.n (.o 18160177 2) 18167977 0 .e) 18167978 0 (.o 18167979 0))) 18167981 0 (.n (.n (.n (.o 18167982 0) 18167983 0 .e) 18167985 0 (.n (.o 18168101 0) 18168102 0 .e)) 18168103 0 (.n (.n (.o 18168109 0) 18168110 0 .e) 18168111 0 (.o 18168113 0))))))))))
def Tr.l : Tr -> Tr
 | .e => .e
 | .n l _ _ _ => l
def Tr.r : Tr -> Tr
 | .e => .e
 | .n _ _ _ r => r
def Tr.top (p : Nat -> Nat -> Bool) : Tr -> Bool
 | .e => true
 | .n _ k v _ => p k v
theorem Tr.of {p : Nat -> Nat -> Bool} : ∀ {t : Tr}, t.top p = true -> t.l.all p = true -> t.r.all p = true -> t.all p = true
 | .e, _, _, _ => rfl
 | .n _ _ _ _, h, a, b => Bool.and_eq_true_iff.mpr ⟨h, Bool.and_eq_true_iff.mpr ⟨a, b⟩⟩
theorem tk_llll : (tree.l.l.l.l).all (goodB tree) = true := by decide +kernel
theorem tk_lllr : (tree.l.l.l.r).all (goodB tree) = true := by decide +kernel
theorem tk_llrl : (tree.l.l.r.l).all (goodB tree) = true := by decide +kernel
theorem tk_llrr : (tree.l.l.r.r).all (goodB tree) = true := by decide +kernel
theorem tk_lrll : (tree.l.r.l.l).all (goodB tree) = true := by decide +kernel
theorem tk_lrlr : (tree.l.r.l.r).all (goodB tree) = true := by decide +kernel
theorem tk_lrrl : (tree.l.r.r.l).all (goodB tree) = true := by decide +kernel
theorem tk_lrrr : (tree.l.r.r.r).all (goodB tree) = true := by decide +kernel
theorem tk_rlll : (tree.r.l.l.l).all (goodB tree) = true := by decide +kernel
theorem tk_rllr : (tree.r.l.l.r).all (goodB tree) = true := by decide +kernel
theorem tk_rlrl : (tree.r.l.r.l).all (goodB tree) = true := by decide +kernel
theorem tk_rlrr : (tree.r.l.r.r).all (goodB tree) = true := by decide +kernel
theorem tk_rrll : (tree.r.r.l.l).all (goodB tree) = true := by decide +kernel
theorem tk_rrlr : (tree.r.r.l.r).all (goodB tree) = true := by decide +kernel
theorem tk_rrrl : (tree.r.r.r.l).all (goodB tree) = true := by decide +kernel
theorem tk_rrrr : (tree.r.r.r.r).all (goodB tree) = true := by decide +kernel
theorem tp_o : (tree).top (goodB tree) = true := by decide +kernel
theorem tp_l : (tree.l).top (goodB tree) = true := by decide +kernel
theorem tp_r : (tree.r).top (goodB tree) = true := by decide +kernel
theorem tp_ll : (tree.l.l).top (goodB tree) = true := by decide +kernel
theorem tp_lr : (tree.l.r).top (goodB tree) = true := by decide +kernel
theorem tp_rl : (tree.r.l).top (goodB tree) = true := by decide +kernel
theorem tp_rr : (tree.r.r).top (goodB tree) = true := by decide +kernel
theorem tp_lll : (tree.l.l.l).top (goodB tree) = true := by decide +kernel
theorem tp_llr : (tree.l.l.r).top (goodB tree) = true := by decide +kernel
theorem tp_lrl : (tree.l.r.l).top (goodB tree) = true := by decide +kernel
theorem tp_lrr : (tree.l.r.r).top (goodB tree) = true := by decide +kernel
theorem tp_rll : (tree.r.l.l).top (goodB tree) = true := by decide +kernel
theorem tp_rlr : (tree.r.l.r).top (goodB tree) = true := by decide +kernel
theorem tp_rrl : (tree.r.r.l).top (goodB tree) = true := by decide +kernel
theorem tp_rrr : (tree.r.r.r).top (goodB tree) = true := by decide +kernel
theorem tree_ok : tree.all (goodB tree) = true := (Tr.of tp_o (Tr.of tp_l (Tr.of tp_ll (Tr.of tp_lll tk_llll tk_lllr) (Tr.of tp_llr tk_llrl tk_llrr)) (Tr.of tp_lr (Tr.of tp_lrl tk_lrll tk_lrlr) (Tr.of tp_lrr tk_lrrl tk_lrrr))) (Tr.of tp_r (Tr.of tp_rl (Tr.of tp_rll tk_rlll tk_rllr) (Tr.of tp_rlr tk_rlrl tk_rlrr)) (Tr.of tp_rr (Tr.of tp_rrl tk_rrll tk_rrlr) (Tr.of tp_rrr tk_rrrl tk_rrrr))))
theorem plus_get (a b : List Nat) (i : Nat) (h : a.length = b.length) : (plus a b).getD i 0 = a.getD i 0 + b.getD i 0 := by
 unfold plus
 induction a generalizing b i with
 | nil =>
  cases b with
  | nil => rfl
  | cons => simp at h
 | cons x a ih =>
  cases b with
  | nil => simp at h
  | cons y b =>
   cases i with
   | zero => rfl
   | succ i =>
    have := ih b i (by simpa using h)
    simpa using this
theorem pass_len : ∀ (ss : List (Nat × Nat)) (xs : List Nat), (pass ss xs).2.length = ss.length + 1
 | [], _ => rfl
 | s :: ss, xs => by
  show (pass ss (eats s xs).2).2.length + 1 = _
  rw [pass_len ss]
  rfl
theorem pass_len1 : ∀ (ss : List (Nat × Nat)) (xs : List Nat), (pass ss xs).1.length = ss.length
 | [], _ => rfl
 | s :: ss, xs => by
  show (pass ss (eats s xs).2).1.length + 1 = _
  rw [pass_len1 ss]
  rfl
theorem shut_len : ∀ (ss : List (Nat × Nat)) (xs : List Nat), (shut ss xs).length = ss.length + 1
 | [], _ => rfl
 | s :: ss, xs => by
  show (shut ss _).length + 1 = _
  rw [shut_len ss]
  rfl
theorem pass_head (s : Nat × Nat) (ss : List (Nat × Nat)) (x : Nat) : (pass (s :: ss) [x]).1.headD (0, 0) = (eat s x).1 := rfl
theorem grow_run : ∀ (r : List Nat) (k v : Nat), tree.look k = some v -> fits ((undo k).headD (0, 0)) r -> lhs (shut (undo k) r) + v <= rhs (shut (undo k) r) + 26
 | [], k, v, hk, _ => by
  have := Tr.all_look tree_ok hk
  unfold goodB at this
  rw [Bool.and_eq_true] at this
  exact Nat.le_of_ble_eq_true this.1
 | x :: r, k, v, hk, hf => by
  obtain ⟨hx, h3, hf⟩ := hf
  have hg := Tr.all_look tree_ok hk
  unfold goodB at hg
  rw [Bool.and_eq_true] at hg
  have hs := List.all_eq_true.mp hg.2 x (by simp; omega)
  rw [Bool.or_eq_true] at hs
  have hs := hs.resolve_left fun z => by
   have := Nat.le_of_ble_eq_true z
   omega
  unfold stepB at hs
  split at hs
  ·rename_i v' hv'
   rw [Bool.and_eq_true] at hs
   have h1 := Nat.le_of_ble_eq_true hs.1
   have h2 : undo (mark (pass (undo k) [x]).1) = (pass (undo k) [x]).1 := by simpa using hs.2
   have hd : (pass (undo k) [x]).1.headD (0, 0) = (eat ((undo k).headD (0, 0)) x).1 := pass_head _ _ x
   have ih := grow_run r (mark (pass (undo k) [x]).1) v' hv' (by rw [h2, hd]; exact hf)
   rw [h2] at ih
   have e : shut (undo k) (x :: r) = plus (pass (undo k) [x]).2 (shut (pass (undo k) [x]).1 r) := shut_append (undo k) [x] r
   have hl : (pass (undo k) [x]).2.length = (shut (pass (undo k) [x]).1 r).length := by rw [pass_len, shut_len, pass_len1]
   unfold lhs rhs at h1 ih ⊢
   rw [e, plus_get _ _ _ hl, plus_get _ _ _ hl, plus_get _ _ _ hl, plus_get _ _ _ hl]
   omega
  ·cases hs
theorem grow_say {l : List Nat} (h : fits (0, 0) l) : 2 * (say (say (say (say (say l))))).length <= (say l).length + 3 * (say (say l)).length + (say (say (say (say l)))).length + 4 := by
 have := grow_run l 0 22 (by decide +kernel) h
 have e : shut (undo 0) l = [l.length, (say l).length, (say (say l)).length, (say (say (say l))).length, (say (say (say (say l)))).length, (say (say (say (say (say l))))).length] := rfl
 rw [e] at this
 have this : 2 * (say (say (say (say (say l))))).length + 22 <= (say l).length + 3 * (say (say l)).length + (say (say (say (say l)))).length + 26 := this
 omega
theorem Calm.grow {l : Row} (h : Calm l) : 2 * (Rc75.later 5 l).length <= (Rc75.later 1 l).length + 3 * (Rc75.later 2 l).length + (Rc75.later 4 l).length + 4 := by
 have g0 := h.say
 have g1 := h.next.say
 have g2 := h.next.next.say
 have g3 := h.next.next.next.say
 have g4 := h.next.next.next.next.say
 have := grow_say g0.2
 rw [g0.1, g1.1, g2.1, g3.1, g4.1] at this
 simp only [List.length_map] at this
 exact this
end RA
end
section
namespace RA
open Rc75
def bnd (o : Nat) : Nat -> List Nat
 | 0 => [40]
 | k + 1 => min (if k + 1 <= o then 65536 else 2 * (bnd o k).getD 0 0) (min (2 * (bnd o k).getD 0 0) (if 7 <= k + 1 then ((bnd o k).getD 3 0 + 3 * (bnd o k).getD 2 0 + (bnd o k).getD 0 0 + 4) / 2 else 2 * (bnd o k).getD 0 0)) :: bnd o k
theorem bnd_all : ((List.range 21).all fun o => (bnd o (o + 15)).all fun b => Nat.ble b 16777216) = true := by decide +kernel
theorem bnd_len (o : Nat) : ∀ k, (bnd o k).length = k + 1
 | 0 => rfl
 | k + 1 => by
  show (bnd o k).length + 1 = _
  rw [bnd_len o k]
theorem later_twice (n : Nat) (l : Row) : (later (n + 1) l).length <= 2 * (later n l).length := by
 rw [later_succ]
 exact aloud_length_le _
theorem bnd_ok {s : Row} {o : Nat} (hp : Plain s) (h40 : s.length <= 40) (ho : ∀ i, i <= o -> (later i s).length <= 65536) :
  ∀ k, k < 40 -> ∀ i, i <= k -> (later (k - i) s).length <= (bnd o k).getD i 0
 | 0, _, i, hi => by
  rw [show i = 0 from by omega]
  exact h40
 | k + 1, hk, i, hi => by
  have ih := bnd_ok hp h40 ho k (by omega)
  cases i with
  | succ i =>
   have := ih i (by omega)
   rw [show k + 1 - (i + 1) = k - i from by omega]
   exact this
  | zero =>
   show (later (k + 1) s).length <= min (if k + 1 <= o then 65536 else 2 * (bnd o k).getD 0 0) (min (2 * (bnd o k).getD 0 0) (if 7 <= k + 1 then ((bnd o k).getD 3 0 + 3 * (bnd o k).getD 2 0 + (bnd o k).getD 0 0 + 4) / 2 else 2 * (bnd o k).getD 0 0))
   have h0 := ih 0 (by omega)
   rw [show k - 0 = k from rfl] at h0
   have h2 := later_twice k s
   have big : (later (k + 1) s).length <= 2 * (bnd o k).getD 0 0 := by omega
   refine Nat.le_min.mpr ⟨?_, Nat.le_min.mpr ⟨by omega, ?_⟩⟩
   ·by_cases h : k + 1 <= o
    ·rw [if_pos h]; exact ho _ h
    ·rw [if_neg h]; exact big
   ·by_cases h : 7 <= k + 1
    ·rw [if_pos h]
     have h3 := ih 3 (by omega)
     have h1 := ih 2 (by omega)
     have c := ((calm_two hp).later (k - 6)).grow
     rw [<- later_add, <- later_add, <- later_add, <- later_add, <- later_add, <- later_add, <- later_add, <- later_add] at c
     rw [show 2 + (k - 6 + 5) = k + 1 from by omega, show 2 + (k - 6 + 1) = k - 3 from by omega, show 2 + (k - 6 + 2) = k - 2 from by omega, show 2 + (k - 6 + 4) = k from by omega] at c
     omega
    ·rw [if_neg h]; exact big
theorem small15 {s : Row} {o : Nat} (hp : Plain s) (h40 : s.length <= 40) (h20 : o <= 20) (ho : ∀ i, i <= o -> (later i s).length <= 65536) (k : Nat) (hk : k <= 15) : (later (o + k) s).length <= 16777216 := by
 have h := bnd_ok hp h40 ho (o + 15) (by omega) (15 - k) (by omega)
 rw [show o + 15 - (15 - k) = o + k from by omega] at h
 have ha := List.all_eq_true.mp bnd_all o (by simp; omega)
 have hl : 15 - k < (bnd o (o + 15)).length := by rw [bnd_len]; omega
 have hb := List.all_eq_true.mp ha ((bnd o (o + 15)).getD (15 - k) 0) (by
  rw [List.getD_eq_getElem?_getD, List.getElem?_eq_getElem hl, Option.getD_some]
  exact List.getElem_mem hl)
 have := Nat.le_of_ble_eq_true hb
 omega
end RA
end
section
namespace RA
open Rc75
abbrev Beg := List (Nat × Nat) × Bool
def begB (p : List (Nat × Nat)) (w : Bool) : Beg := if 8 < p.length then (p.take 8, false) else (p, w)
def nextB (b : Beg) : Beg := begB (if b.2 = true then runs (fl b.1) else (runs (fl b.1)).dropLast) b.2
def itB : Nat -> Beg -> Beg
 | 0, b => b
 | n + 1, b => itB n (nextB b)
theorem itB_succ : ∀ (n : Nat) (b : Beg), itB (n + 1) b = nextB (itB n b)
 | 0, _ => rfl
 | n + 1, b => itB_succ n (nextB b)
theorem itB_add : ∀ (m n : Nat) (b : Beg), itB (m + n) b = itB n (itB m b)
 | 0, n, b => by rw [Nat.zero_add]; rfl
 | m + 1, n, b => by
  rw [show m + 1 + n = (m + n) + 1 from by omega]
  exact itB_add m n (nextB b)
structure Tells (b : Beg) (l : Row) : Prop where
 ne : b.1 ≠ []
 le : b.1.length <= 8
 all : b.2 = true -> runs l = b.1
 some : b.2 = false -> ∃ q, runs l = b.1 ++ q
theorem begB_fst (p : List (Nat × Nat)) (w : Bool) : (begB p w).1 = p.take 8 := by
 unfold begB
 by_cases h : 8 < p.length
 ·rw [if_pos h]
 ·rw [if_neg h]
  show p = p.take 8
  exact (List.take_of_length_le (by omega)).symm
theorem begB_long {p : List (Nat × Nat)} {w : Bool} (h : 8 < p.length) : begB p w = (p.take 8, false) := by unfold begB; rw [if_pos h]
theorem begB_false (p : List (Nat × Nat)) : begB p false = (p.take 8, false) := by
 unfold begB
 by_cases h : 8 < p.length
 ·rw [if_pos h]
 ·rw [if_neg h, List.take_of_length_le (by omega)]
theorem fl_ne {p : List (Nat × Nat)} (h : p ≠ []) : fl p ≠ [] := by
 cases p with
 | nil => exact absurd rfl h
 | cons x q => obtain ⟨c, d⟩ := x; rw [fl_cons]; exact List.cons_ne_nil _ _
theorem runs_ne {l : Row} (h : l ≠ []) : runs l ≠ [] := by
 cases l with
 | nil => exact absurd rfl h
 | cons a r => obtain ⟨k, q, e⟩ := runs_cons a r; rw [e]; exact List.cons_ne_nil _ _
theorem runs_pre' (p r : Row) (hp : p ≠ []) : ∃ q, q ≠ [] /\ runs (p ++ r) = (runs p).dropLast ++ q := by
 obtain ⟨q, e⟩ := runs_pre p r
 refine ⟨q, fun z => ?_, e⟩
 subst z
 rw [List.append_nil] at e
 have h1 : (runs (p ++ r)).length = (runs p).length - 1 := by rw [e, List.length_dropLast]
 have h2 : ∀ (u v : Row), (runs u).length <= (runs (u ++ v)).length := by
  intro u v
  induction u with
  | nil => exact Nat.zero_le _
  | cons a u ih =>
   cases u with
   | nil =>
    obtain ⟨k, q, e⟩ := runs_cons a v
    show 1 <= (runs (a :: v)).length
    rw [e]
    simp
   | cons b u =>
    obtain ⟨k, q, e⟩ := runs_cons b u
    obtain ⟨k', q', e'⟩ := runs_cons b (u ++ v)
    have e'' : runs ((b :: u) ++ v) = (k' + 1, b) :: q' := e'
    rw [e, e''] at ih
    by_cases hab : a = b
    ·subst hab
     rw [runs_more e]
     show _ <= (runs (a :: (a :: (u ++ v)))).length
     rw [runs_more e']
     simpa using ih
    ·have g1 : runs (a :: b :: u) = (1, a) :: runs (b :: u) := runs_new (by simp; exact fun z => hab z.symm)
     have g2 : runs ((a :: b :: u) ++ v) = (1, a) :: runs (b :: (u ++ v)) := runs_new (by simp; exact fun z => hab z.symm)
     rw [g1, g2, e, e']
     simpa using ih
 have h3 := h2 p r
 have h4 : 0 < (runs p).length := List.length_pos_iff.mpr (runs_ne hp)
 omega
theorem Tells.next {b : Beg} {l : Row} (h : Tells b l) (hn : (nextB b).1 ≠ []) : Tells (nextB b) (aloud l) := by
 refine ⟨hn, ?_, ?_, ?_⟩
 ·show (begB _ _).1.length <= 8
  rw [begB_fst, List.length_take]
  omega
 ·intro hw
  obtain ⟨p, w⟩ := b
  cases w with
  | false =>
   have : (begB (runs (fl p)).dropLast false).2 = true := hw
   rw [begB_false] at this
   cases this
  | true =>
   have e : runs l = p := h.all rfl
   have hw : (begB (runs (fl p)) true).2 = true := hw
   show runs (aloud l) = (begB (runs (fl p)) true).1
   rw [aloud_eq, e, begB_fst]
   by_cases h8 : 8 < (runs (fl p)).length
   ·rw [begB_long h8] at hw
    cases hw
   ·exact (List.take_of_length_le (by omega)).symm
 ·intro hw
  obtain ⟨p, w⟩ := b
  cases w with
  | false =>
   obtain ⟨q, e⟩ := h.some rfl
   show ∃ q, runs (aloud l) = (begB (runs (fl p)).dropLast false).1 ++ q
   obtain ⟨s, es⟩ := runs_pre (fl p) (fl q)
   rw [aloud_eq, e, fl_append, es, begB_fst]
   exact ⟨(runs (fl p)).dropLast.drop 8 ++ s, by rw [<- List.append_assoc, List.take_append_drop]⟩
  | true =>
   have e : runs l = p := h.all rfl
   show ∃ q, runs (aloud l) = (begB (runs (fl p)) true).1 ++ q
   rw [aloud_eq, e, begB_fst]
   exact ⟨(runs (fl p)).drop 8, (List.take_append_drop _ _).symm⟩
theorem Tells.sub {b : Beg} {l : Row} (h : Tells b l) : ∃ q, runs l = b.1 ++ q := by
 cases e : b.2 with
 | true => exact ⟨[], by rw [List.append_nil]; exact h.all e⟩
 | false => exact h.some e
theorem adj_pre : ∀ {p q : List (Nat × Nat)}, Adj (p ++ q) -> Adj p
 | [], _, _ => trivial
 | [_], _, _ => trivial
 | (_, _) :: (_, _) :: r, q, h => ⟨h.1, adj_pre (p := _ :: r) h.2⟩
theorem runs_fl_len : ∀ p : List (Nat × Nat), Adj p -> p.length <= (runs (fl p)).length /\ ∀ c d q, p = (c, d) :: q -> p.length <= (runs (d :: fl q)).length
 | [], _ => ⟨Nat.zero_le _, fun _ _ _ e => by cases e⟩
 | (c, d) :: q, h => by
  have key : ((c, d) :: q).length <= (runs (d :: fl q)).length := by
   cases q with
   | nil => exact Nat.le_refl _
   | cons y q =>
    obtain ⟨e, f⟩ := y
    obtain ⟨hd, h'⟩ := h
    obtain ⟨_, i2⟩ := runs_fl_len ((e, f) :: q) h'
    have i2 := i2 e f q rfl
    rw [fl_cons]
    have up : ∀ (a : Nat) (l : Row), (runs l).length <= (runs (a :: l)).length := by
     intro a l
     cases l with
     | nil => exact Nat.zero_le _
     | cons b r =>
      obtain ⟨k, t, e⟩ := runs_cons b r
      by_cases hab : a = b
      ·subst hab; rw [runs_more e, e]; simp
      ·have g : runs (a :: b :: r) = (1, a) :: runs (b :: r) := runs_new (by simp; exact fun z => hab z.symm)
       rw [g]; simp
    by_cases hde : d = e
    ·
     have hef : e ≠ f := fun z => hd (hde.trans z)
     have g : runs (e :: f :: fl q) = (1, e) :: runs (f :: fl q) := runs_new (by simp; exact fun z => hef z.symm)
     have := up d (e :: f :: fl q)
     rw [g] at this
     simp only [List.length_cons] at this i2 ⊢
     omega
    ·have g : runs (d :: e :: f :: fl q) = (1, d) :: runs (e :: f :: fl q) := runs_new (by simp; exact fun z => hde z.symm)
     have := up e (f :: fl q)
     rw [g]
     simp only [List.length_cons] at this i2 ⊢
     omega
  refine ⟨?_, fun c' d' q' e => by cases e; exact key⟩
  rw [fl_cons]
  have up : (runs (d :: fl q)).length <= (runs (c :: d :: fl q)).length := by
   obtain ⟨k, t, e⟩ := runs_cons d (fl q)
   by_cases hab : c = d
   ·subst hab; rw [runs_more e, e]; simp
   ·have g : runs (c :: d :: fl q) = (1, c) :: runs (d :: fl q) := runs_new (by simp; exact fun z => hab z.symm)
    rw [g]; simp
  exact Nat.le_trans key up
theorem next_len {b : Beg} (ha : Adj b.1) (hne : b.1 ≠ []) : (nextB b).2 = true \/ min 8 (b.1.length - 1) <= (nextB b).1.length := by
 obtain ⟨p, w⟩ := b
 cases w with
 | true =>
  by_cases h8 : 8 < (runs (fl p)).length
  ·right
   show _ <= (begB (runs (fl p)) true).1.length
   rw [begB_fst, List.length_take]
   omega
  ·left
   show (begB (runs (fl p)) true).2 = true
   unfold begB
   rw [if_neg h8]
 | false =>
  right
  show _ <= (begB (runs (fl p)).dropLast false).1.length
  rw [begB_fst, List.length_take, List.length_dropLast]
  have := (runs_fl_len p ha).1
  show min 8 (p.length - 1) <= _
  omega
def Sep : Row -> Prop
 | a :: b :: r => (a < 4 \/ b < 4) /\ Sep (b :: r)
 | _ => True
def al (x : Nat × Nat) : Nat × Nat := (x.1, ab x.2)
theorem runs_ab : ∀ l : Row, Sep l -> runs (l.map ab) = (runs l).map al
 | [], _ => rfl
 | [a], _ => rfl
 | a :: b :: r, h => by
  have ih := runs_ab (b :: r) h.2
  obtain ⟨k, q, e⟩ := runs_cons b r
  have e' : runs ((b :: r).map ab) = (k + 1, ab b) :: q.map al := by rw [ih, e]; rfl
  by_cases hab : a = b
  ·subst hab
   rw [runs_more e]
   show runs (ab a :: (a :: r).map ab) = _
   rw [runs_more e']
   rfl
  ·have hn : ab a ≠ ab b := by
    intro z
    unfold ab at z
    rcases h.1 with h4 | h4 <;> omega
   have g : runs (a :: b :: r) = (1, a) :: runs (b :: r) := runs_new (by simp; exact fun z => hab z.symm)
   have g' : runs (ab a :: (b :: r).map ab) = (1, ab a) :: runs ((b :: r).map ab) := runs_new (by simp; exact fun z => hn z.symm)
   rw [g]
   show runs (ab a :: (b :: r).map ab) = _
   rw [g', ih]
   rfl
theorem sep_fl : ∀ q : List (Nat × Nat), (∀ x ∈ q, x.1 <= 3) -> Sep (fl q)
 | [], _ => trivial
 | [(c, d)], h => ⟨.inl (by have : c <= 3 := h (c, d) (by simp); omega), trivial⟩
 | (c, d) :: (e, f) :: q, h => by
  have h1 : c <= 3 := h (c, d) (by simp)
  have h2 : e <= 3 := h (e, f) (by simp)
  exact ⟨.inl (by omega), .inr (by omega), sep_fl ((e, f) :: q) fun x hx => h x (by simp at hx ⊢; exact .inr hx)⟩
theorem fl_al : ∀ q : List (Nat × Nat), (∀ x ∈ q, x.1 <= 3) -> fl (q.map al) = (fl q).map ab
 | [], _ => rfl
 | (c, d) :: q, h => by
  have h1 : c <= 3 := h (c, d) (by simp)
  rw [fl_cons]
  show c :: ab d :: fl (q.map al) = ab c :: ab d :: (fl q).map ab
  rw [fl_al q fun x hx => h x (by simp [hx]), ab_small h1]
def alB (b : Beg) : Beg := (b.1.map al, b.2)
theorem begB_al (p : List (Nat × Nat)) (w : Bool) : begB (p.map al) w = alB (begB p w) := by
 unfold begB alB
 rw [List.length_map]
 by_cases h : 8 < p.length
 ·rw [if_pos h, if_pos h, List.map_take]
 ·rw [if_neg h, if_neg h]
theorem nextB_al {b : Beg} (h : ∀ x ∈ b.1, x.1 <= 3) : nextB (alB b) = alB (nextB b) := by
 unfold nextB
 rw [<- begB_al]
 have e : runs (fl (alB b).1) = (runs (fl b.1)).map al := by
  show runs (fl (b.1.map al)) = _
  rw [fl_al _ h, runs_ab _ (sep_fl _ h)]
 rw [e]
 show begB (if b.2 = true then _ else _) b.2 = _
 cases b.2 with
 | true => rfl
 | false => rw [if_neg (by decide), if_neg (by decide), List.map_dropLast]
def stepK (p : List (Nat × Nat)) : List (Nat × Nat) := (runs (fl p)).dropLast
def adv (q : List (Nat × Nat)) : List (Nat × Nat) := (stepK q).take 8
def advs : Nat -> List (Nat × Nat) -> List (Nat × Nat)
 | 0, q => q
 | n + 1, q => advs n (adv q)
def niceB (y : Beg) : Bool := !y.1.isEmpty && (itB 3 y == y) && y.1.all fun x => Nat.blt x.2 4
def tailB (n : Nat) (q : List (Nat × Nat)) : Bool := niceB (advs n q, false)
def simU : Nat -> List (Nat × Nat) -> Bool
 | 0, _ => false
 | n + 1, q => bif Nat.beq (adv q).length 8 then tailB n (adv q) else (!(adv q).isEmpty && simU n (adv q))
def deepB : Nat -> List (Nat × Nat) -> Nat -> Bool
 | 0, q, _ => simU 16 q
 | m + 1, q, b => simU 16 q || (niceB (itB 16 (q, true)) && [1, 2, 3].all fun n => [1, 2, 3, 4].all fun d => (Nat.beq d b && Nat.blt d 4) || deepB m (q ++ [(n, d)]) d)
theorem deep_11 : deepB 5 [(1, 1)] 1 = true := by decide +kernel
theorem deep_12 : deepB 5 [(1, 2)] 2 = true := by decide +kernel
theorem deep_13 : deepB 5 [(1, 3)] 3 = true := by decide +kernel
theorem deep_14 : deepB 5 [(1, 4)] 4 = true := by decide +kernel
theorem deep_21 : deepB 5 [(2, 1)] 1 = true := by decide +kernel
theorem deep_22 : deepB 5 [(2, 2)] 2 = true := by decide +kernel
theorem deep_23 : deepB 5 [(2, 3)] 3 = true := by decide +kernel
theorem deep_24 : deepB 5 [(2, 4)] 4 = true := by decide +kernel
theorem deep_31 : deepB 5 [(3, 1)] 1 = true := by decide +kernel
theorem deep_32 : deepB 5 [(3, 2)] 2 = true := by decide +kernel
theorem deep_33 : deepB 5 [(3, 3)] 3 = true := by decide +kernel
theorem deep_34 : deepB 5 [(3, 4)] 4 = true := by decide +kernel
theorem all_of {α : Type} {p : α -> Bool} {a : α} {l : List α} (h : p a = true) (t : l.all p = true) : (a :: l).all p = true := by rw [List.all_cons, h, t]; rfl
theorem deep_all : ([1, 2, 3].all fun n => [1, 2, 3, 4].all fun d => deepB 5 [(n, d)] d) = true := all_of (all_of deep_11 (all_of deep_12 (all_of deep_13 (all_of deep_14 rfl)))) (all_of (all_of deep_21 (all_of deep_22 (all_of deep_23 (all_of deep_24 rfl)))) (all_of (all_of deep_31 (all_of deep_32 (all_of deep_33 (all_of deep_34 rfl)))) rfl))
def Nice (y : Beg) : Prop := y.1 ≠ [] /\ itB 3 y = y /\ ∀ x ∈ y.1, x.2 < 4
theorem niceB_ok {y : Beg} (h : niceB y = true) : Nice y := by
 unfold niceB at h
 rw [Bool.and_eq_true, Bool.and_eq_true] at h
 refine ⟨fun z => ?_, by simpa using h.1.2, fun x hx => ?_⟩
 ·have := h.1.1
  rw [z] at this
  cases this
 ·have := List.all_eq_true.mp h.2 x hx
  exact Nat.le_of_ble_eq_true this
theorem itB_false : ∀ (n : Nat) (q : List (Nat × Nat)), itB n (q, false) = (advs n q, false)
 | 0, _ => rfl
 | n + 1, q => by
  have e : nextB (q, false) = (adv q, false) := begB_false _
  show itB n (nextB (q, false)) = (advs n (adv q), false)
  rw [e]
  exact itB_false n (adv q)
theorem next_under {q r : List (Nat × Nat)} {w : Bool} (hq : q ≠ []) : (∃ r', (nextB (q ++ r, w)).1 = adv q ++ r') /\ ((adv q).length = 8 -> nextB (q ++ r, w) = (adv q, false)) := by
 obtain ⟨s, hs, es⟩ := runs_pre' (fl q) (fl r) (fl_ne hq)
 have e0 : runs (fl (q ++ r)) = stepK q ++ s := by rw [fl_append]; exact es
 have hsp : 0 < s.length := List.length_pos_iff.mpr hs
 have gen : ∀ t, (stepK q ++ t).take 8 = adv q ++ t.take (8 - (stepK q).length) := fun t => List.take_append
 cases w with
 | true =>
  have e1 : nextB (q ++ r, true) = begB (stepK q ++ s) true := by
   show begB (runs (fl (q ++ r))) true = _
   rw [e0]
  rw [e1]
  refine ⟨⟨_, by rw [begB_fst]; exact gen s⟩, fun h8 => ?_⟩
  have h8' : 8 <= (stepK q).length := by
   unfold adv at h8
   rw [List.length_take] at h8
   omega
  rw [begB_long (by rw [List.length_append]; omega), gen, show 8 - (stepK q).length = 0 from by omega, List.take_zero, List.append_nil]
 | false =>
  have e1 : nextB (q ++ r, false) = begB (stepK q ++ s.dropLast) false := by
   show begB (runs (fl (q ++ r))).dropLast false = _
   rw [e0, List.dropLast_append_of_ne_nil hs]
  rw [e1, begB_false]
  refine ⟨⟨_, gen _⟩, fun h8 => ?_⟩
  have h8' : 8 <= (stepK q).length := by
   unfold adv at h8
   rw [List.length_take] at h8
   omega
  rw [gen, show 8 - (stepK q).length = 0 from by omega, List.take_zero, List.append_nil]
theorem simU_ok : ∀ (n : Nat) (q r : List (Nat × Nat)) (w : Bool), simU n q = true -> q ≠ [] -> Nice (itB n (q ++ r, w))
 | 0, _, _, _, h, _ => by cases h
 | n + 1, q, r, w, h, hq => by
  obtain ⟨⟨r', e1⟩, e2⟩ := next_under (q := q) (r := r) (w := w) hq
  show Nice (itB n (nextB (q ++ r, w)))
  unfold simU at h
  cases e : Nat.beq (adv q).length 8 with
  | true =>
   rw [e] at h
   rw [e2 (Nat.eq_of_beq_eq_true e), itB_false]
   exact niceB_ok h
  | false =>
   rw [e] at h
   have h : (!(adv q).isEmpty && simU n (adv q)) = true := h
   rw [Bool.and_eq_true] at h
   have ne : adv q ≠ [] := fun z => by rw [z] at h; cases h.1
   have e3 : nextB (q ++ r, w) = (adv q ++ r', (nextB (q ++ r, w)).2) := Prod.ext e1 rfl
   rw [e3]
   exact simU_ok n (adv q) r' _ h.2 ne
def AdjA : Nat -> List (Nat × Nat) -> Prop
 | _, [] => True
 | b, (_, d) :: q => (d ≠ b \/ 4 <= d) /\ AdjA d q
theorem deepB_ok : ∀ (m : Nat) (q : List (Nat × Nat)) (b : Nat) (r : List (Nat × Nat)) (w : Bool), deepB m q b = true -> q ≠ [] -> AdjA b r -> (∀ x ∈ r, (1 <= x.1 /\ x.1 <= 3) /\ 1 <= x.2 /\ x.2 <= 4) -> (w = true \/ m <= r.length) -> Nice (itB 16 (q ++ r, w))
 | 0, q, b, r, w, h, hq, _, _, _ => simU_ok 16 q r w h hq
 | m + 1, q, b, r, w, h, hq, ha, hx, hw => by
  unfold deepB at h
  rw [Bool.or_eq_true, Bool.and_eq_true] at h
  rcases h with h | ⟨h1, h2⟩
  ·exact simU_ok 16 q r w h hq
  ·cases r with
   | nil =>
    have hw : w = true := by
     rcases hw with z | z
     ·exact z
     ·simp at z
    subst hw
    rw [List.append_nil]
    exact niceB_ok h1
   | cons x r =>
    obtain ⟨n, d⟩ := x
    have hx0 := hx (n, d) (by simp)
    have g1 := List.all_eq_true.mp h2 n (by simp; have : 1 <= n /\ n <= 3 := hx0.1; omega)
    have g2 := List.all_eq_true.mp g1 d (by simp; have : 1 <= d /\ d <= 4 := hx0.2; omega)
    rw [Bool.or_eq_true] at g2
    have g3 := g2.resolve_left fun z => by
     rw [Bool.and_eq_true] at z
     have z1 := Nat.eq_of_beq_eq_true z.1
     have z2 : d < 4 := Nat.le_of_ble_eq_true z.2
     rcases ha.1 with k | k
     ·exact k z1
     ·omega
    have := deepB_ok m (q ++ [(n, d)]) d r w g3 (by simp) ha.2 (fun y hy => hx y (by simp [hy])) (hw.imp id fun z => by simp at z; omega)
    rw [List.append_assoc] at this
    exact this
theorem adjA_of : ∀ (q : List (Nat × Nat)) (c b : Nat), Adj ((c, b) :: q) -> AdjA (ab b) (q.map al)
 | [], _, _, _ => trivial
 | (n, d) :: q, c, b, h => by
  refine ⟨?_, adjA_of q n d h.2⟩
  show ab d ≠ ab b \/ 4 <= ab d
  have h1 : b ≠ d := h.1
  unfold ab
  by_cases h4 : d < 4
  ·left; omega
  ·right; omega
theorem nice_al {b : Beg} (h3 : ∀ x ∈ b.1, (1 <= x.1 /\ x.1 <= 3) /\ 1 <= x.2) (ha : Adj b.1) (hne : b.1 ≠ []) (hw : b.2 = true \/ 6 <= b.1.length) : Nice (itB 16 (alB b)) := by
 obtain ⟨p, w⟩ := b
 cases p with
 | nil => exact absurd rfl hne
 | cons x q =>
  obtain ⟨n, d⟩ := x
  have hx0 := h3 (n, d) (by simp)
  have h1 := List.all_eq_true.mp deep_all n (by simp; have : 1 <= n /\ n <= 3 := hx0.1; omega)
  have h2 := List.all_eq_true.mp h1 (ab d) (by have := ab_ge hx0.2; have := ab_le d; simp; have : 1 <= ab d := ab_ge hx0.2; omega)
  have := deepB_ok 5 [(n, ab d)] (ab d) (q.map al) w h2 (by simp) (adjA_of q n d ha) (fun y hy => ?_) (hw.imp id fun z => by simp at z ⊢; omega)
  ·exact this
  ·obtain ⟨z, hz, rfl⟩ := List.mem_map.mp hy
   have hz' := h3 z (by simp [hz])
   exact ⟨hz'.1, ab_ge hz'.2, ab_le _⟩
theorem itB_al : ∀ (n : Nat) (b : Beg), (∀ k, k < n -> ∀ x ∈ (itB k b).1, x.1 <= 3) -> itB n (alB b) = alB (itB n b)
 | 0, _, _ => rfl
 | n + 1, b, h => by
  show itB n (nextB (alB b)) = alB (itB n (nextB b))
  have h0 : ∀ x ∈ b.1, x.1 <= 3 := h 0 (by omega)
  rw [nextB_al h0]
  exact itB_al n (nextB b) fun k hk => h (k + 1) (by omega)
theorem empty_stays (w : Bool) : ∀ n, (itB n ([], w)).1 = []
 | 0 => rfl
 | n + 1 => by
  cases w with
  | true => exact empty_stays true n
  | false => exact empty_stays false n
theorem itB_ne {b : Beg} {m : Nat} (h : (itB m b).1 ≠ []) : ∀ n, n <= m -> (itB n b).1 ≠ [] := by
 intro n hn z
 obtain ⟨k, rfl⟩ : ∃ k, m = n + k := ⟨m - n, by omega⟩
 rw [itB_add] at h
 have e : itB n b = ([], (itB n b).2) := Prod.ext z rfl
 rw [e] at h
 exact h (empty_stays _ k)
theorem tells_to {b : Beg} {v : Row} {m : Nat} (h : Tells b v) (hm : (itB m b).1 ≠ []) : ∀ n, n <= m -> Tells (itB n b) (later n v)
 | 0, _ => h
 | n + 1, hn => by
  rw [itB_succ, later_succ]
  refine (tells_to h hm n (by omega)).next ?_
  rw [<- itB_succ]
  exact itB_ne hm _ hn
structure Start (b : Beg) (v : Row) : Prop where
 tells : Tells b v
 plain : Plain v
 full : b.2 = true \/ b.1.length = 8
theorem Start.one {b : Beg} {v : Row} (h : Start b v) : (nextB b).1 ≠ [] /\ ((nextB b).2 = true \/ 6 <= (nextB b).1.length) := by
 obtain ⟨q, e⟩ := h.tells.sub
 have ha : Adj b.1 := adj_pre (by rw [<- e]; exact runs_adj v)
 obtain ⟨p, w⟩ := b
 cases w with
 | true =>
  have e1 : nextB (p, true) = begB (runs (fl p)) true := rfl
  have hr := runs_ne (fl_ne h.tells.ne)
  have hp : 0 < (runs (fl p)).length := List.length_pos_iff.mpr hr
  refine ⟨fun z => ?_, ?_⟩
  ·rw [e1, begB_fst] at z
   have := congrArg List.length z
   rw [List.length_take] at this
   simp only [List.length_nil] at this
   omega
  ·rcases next_len ha h.tells.ne with z | z
   ·exact .inl z
   ·by_cases h8 : 8 < (runs (fl p)).length
    ·right
     rw [e1, begB_fst, List.length_take]
     omega
    ·left
     rw [e1]
     unfold begB
     rw [if_neg h8]
 | false =>
  have h8 : p.length = 8 := h.full.resolve_left fun z => by cases z
  have e1 : nextB (p, false) = ((runs (fl p)).dropLast.take 8, false) := begB_false _
  have := (runs_fl_len p ha).1
  have hl : 6 <= (nextB (p, false)).1.length := by
   rw [e1]
   show 6 <= ((runs (fl p)).dropLast.take 8).length
   rw [List.length_take, List.length_dropLast]
   omega
  exact ⟨fun z => by rw [z] at hl; simp at hl, .inr hl⟩
theorem al_small : ∀ {p q : List (Nat × Nat)}, p.map al = q -> (∀ x ∈ q, x.2 < 4) -> p = q
 | [], _, e, _ => by rw [<- e]; rfl
 | (n, d) :: p, q, e, h => by
  subst e
  have h1 : ab d < 4 := h (n, ab d) (by simp [al])
  have e1 : ab d = d := by unfold ab at h1 ⊢; omega
  have := al_small (p := p) rfl fun x hx => h x (by simp only [List.map_cons, List.mem_cons]; exact .inr hx)
  rw [List.map_cons, <- this]
  show _ = (n, ab d) :: p
  rw [e1]
theorem al_back {x y : Beg} (e : y = alB x) (h : ∀ z ∈ y.1, z.2 < 4) : x = y := by
 subst e
 exact Prod.ext (al_small rfl h) rfl
theorem Start.round {b : Beg} {v : Row} (h : Start b v) : (itB 17 b).1 ≠ [] /\ itB 20 b = itB 17 b := by
 obtain ⟨hne, hw⟩ := h.one
 have t1 := h.tells.next hne
 obtain ⟨q1, eq1⟩ := t1.sub
 have three : ∀ n, (itB n (nextB b)).1 ≠ [] -> ∀ k, k <= n -> ∀ x ∈ (itB k (nextB b)).1, x.1 <= 3 := by
  intro n hn k hk x hx
  have t := tells_to t1 hn k hk
  obtain ⟨q, e⟩ := t.sub
  have : x ∈ runs (later k (Rc75.aloud v)) := by rw [e]; exact List.mem_append_left _ hx
  cases k with
  | zero => exact aloud_runs3 v x this
  | succ k => rw [later_succ] at this; exact aloud_runs3 _ x this
 have base : ∀ x ∈ (nextB b).1, (1 <= x.1 /\ x.1 <= 3) /\ 1 <= x.2 := fun x hx => by
  have hm : x ∈ runs (Rc75.aloud v) := by rw [eq1]; exact List.mem_append_left _ hx
  have := runs_ge x hm
  exact ⟨⟨this.1, aloud_runs3 v x hm⟩, (h.plain.aloud.1 _ this.2).1⟩
 have nice := nice_al base (adj_pre (by rw [<- eq1]; exact runs_adj _)) hne hw
 have alive : ∀ n, n <= 16 -> (itB n (nextB b)).1 ≠ [] /\ itB n (alB (nextB b)) = alB (itB n (nextB b)) := by
  intro n
  induction n with
  | zero => intro _; exact ⟨hne, rfl⟩
  | succ n ih =>
   intro hn
   obtain ⟨i1, i2⟩ := ih (by omega)
   have e : itB (n + 1) (alB (nextB b)) = alB (itB (n + 1) (nextB b)) := itB_al (n + 1) _ fun k hk => three n i1 k (by omega)
   refine ⟨fun z => ?_, e⟩
   have hn1 := itB_ne nice.1 (n + 1) hn
   rw [e] at hn1
   apply hn1
   show ((itB (n + 1) (nextB b)).1).map al = []
   rw [z]
   rfl
 obtain ⟨a1, a2⟩ := alive 16 (Nat.le_refl _)
 have e16 := al_back a2 nice.2.2
 have f17 : itB 17 b = itB 16 (nextB b) := by rw [show 17 = 1 + 16 from rfl, itB_add]; rfl
 have f20 : itB 20 b = itB 3 (itB 16 (nextB b)) := by rw [show 20 = 1 + (16 + 3) from rfl, itB_add, itB_add]; rfl
 rw [f17, f20]
 refine ⟨a1, ?_⟩
 rw [e16]
 exact nice.2.1
theorem Start.again {b : Beg} {v : Row} (h : Start b v) : ∀ k, itB (17 + 3 * k) b = itB 17 b
 | 0 => rfl
 | k + 1 => by
  rw [show 17 + 3 * (k + 1) = (17 + 3 * k) + 3 from by omega, itB_add, h.again k, <- itB_add]
  exact h.round.2
theorem Start.tells_all {b : Beg} {v : Row} (h : Start b v) (n : Nat) : Tells (itB n b) (later n v) := by
 refine tells_to (m := 17 + 3 * n) h.tells ?_ n (by omega)
 rw [h.again]
 exact h.round.1
def fdB (b : Beg) : Nat := (b.1.headD (0, 0)).2
theorem Tells.first {b : Beg} {l : Row} (h : Tells b l) : l.head? = Option.some (fdB b) := by
 obtain ⟨q, e⟩ := h.sub
 obtain ⟨p, w⟩ := b
 cases p with
 | nil => exact absurd rfl h.ne
 | cons x p =>
  obtain ⟨n, d⟩ := x
  cases l with
  | nil => cases e
  | cons a r =>
   obtain ⟨k, t, e2⟩ := runs_cons a r
   rw [e2] at e
   have e : (k + 1, a) :: t = (n, d) :: (p ++ q) := e
   injection e with e3 e4
   injection e3 with e5 e6
   rw [e6]
   rfl
theorem seen_all {b : Beg} {i k : Nat} (hk : k < i) (e : itB i b = itB k b) : ∀ n, ∃ j, j < i /\ itB n b = itB j b
 | 0 => ⟨0, by omega, rfl⟩
 | n + 1 => by
  obtain ⟨j, hj, ej⟩ := seen_all hk e n
  rw [itB_succ, ej, <- itB_succ]
  by_cases h : j + 1 < i
  ·exact ⟨j + 1, h, rfl⟩
  ·exact ⟨k, hk, by rw [show j + 1 = i from by omega]; exact e⟩
theorem Start.never {b : Beg} {u v : Row} (h : Start b v) (hu : u ≠ []) {i k : Nat} (hk : k < i) (e : itB i b = itB k b) : Never u v ↔ ∀ j, j < i -> u.getLast? ≠ Option.some (fdB (itB j b)) := by
 rw [never_iff hu]
 refine ⟨fun z j hj => ?_, fun z n => ?_⟩
 ·rw [<- (h.tells_all j).first]
  exact z j
 ·obtain ⟨j, hj, ej⟩ := seen_all hk e n
  rw [(h.tells_all n).first, ej]
  exact z j hj
end RA
end
section
namespace RA
open Rc75
def flow : List (Nat × Nat) -> List Nat -> List (Nat × Nat) × List Nat
 | [], xs => ([], xs)
 | s :: ss, xs => ((eats s xs).1 :: (flow ss (eats s xs).2).1, (flow ss (eats s xs).2).2)
def shutF : List (Nat × Nat) -> List Nat -> List Nat
 | [], xs => xs
 | s :: ss, xs => shutF ss (ends s xs)
theorem shutF_append : ∀ (ss : List (Nat × Nat)) (xs ys : List Nat), shutF ss (xs ++ ys) = (flow ss xs).2 ++ shutF (flow ss xs).1 ys
 | [], xs, ys => rfl
 | s :: ss, xs, ys => by
  show shutF ss (ends s (xs ++ ys)) = (flow ss (eats s xs).2).2 ++ shutF (flow ss (eats s xs).2).1 (ends (eats s xs).1 ys)
  rw [<- shutF_append ss]
  congr 1
  unfold ends
  rw [eats_append, List.append_assoc]
def pc (p : Nat × Nat) : Nat := p.2 * 4 + p.1
def near (p q : Nat × Nat) : Bool := Nat.testBit 691033158841834964399698714781753014321080336905614127565166696878916326530257901482584336611730134041180180930450528990095969951843522210080182644384992965701524270816 (pc p * 32 + pc q)
def okP (p : Nat × Nat) : List Nat -> Bool
 | [] => true
 | [_] => false
 | c :: d :: r => near p (c, d) && okP (c, d) r
def lastP (p : Nat × Nat) : List Nat -> Nat × Nat
 | [] => p
 | [_] => p
 | c :: d :: r => lastP (c, d) r
theorem okP_append : ∀ (a : List Nat) (p : Nat × Nat) (b : List Nat), okP p a = true -> okP p (a ++ b) = okP (lastP p a) b
 | [], p, b, _ => rfl
 | [_], p, b, h => by cases h
 | c :: d :: r, p, b, h => by
  have h : (near p (c, d) && okP (c, d) r) = true := h
  rw [Bool.and_eq_true] at h
  show (near p (c, d) && okP (c, d) (r ++ b)) = okP (lastP (c, d) r) b
  rw [h.1, Bool.true_and]
  exact okP_append r (c, d) b h.2
inductive Ts where
 | e
 | n (l : Ts) (k : Nat) (r : Ts)
def Ts.has : Ts -> Nat -> Bool
 | .e, _ => false
 | .n l k r, x => bif Nat.beq x k then true else bif Nat.blt x k then l.has x else r.has x
def Ts.all (p : Nat -> Bool) : Ts -> Bool
 | .e => true
 | .n l k r => p k && (l.all p && r.all p)
theorem Ts.all_has {p : Nat -> Bool} : ∀ {t : Ts} {k : Nat}, t.all p = true -> t.has k = true -> p k = true
 | .e, _, _, h => by cases h
 | .n l k' r, k, ha, h => by
  unfold Ts.all at ha
  rw [Bool.and_eq_true, Bool.and_eq_true] at ha
  unfold Ts.has at h
  cases e : Nat.beq k k' with
  | true => rw [Nat.eq_of_beq_eq_true e]; exact ha.1
  | false =>
   rw [e] at h
   cases e2 : Nat.blt k k' with
   | true => rw [e2] at h; exact Ts.all_has ha.2.1 h
   | false => rw [e2] at h; exact Ts.all_has ha.2.2 h
def lev (k : Nat) : Nat × Nat := (k / 4 % 8, k % 4)
def undoS (k : Nat) : List (Nat × Nat) := [lev (k / 32 % 32), lev (k / 1024 % 32), lev (k / 32768 % 32), lev (k / 1048576)]
def undoL (k : Nat) : Nat × Nat := (k % 4, k / 4 % 8)
def markS (ss : List (Nat × Nat)) (l : Nat × Nat) : Nat := pc l + 32 * mark ss
def edgeB (t : Ts) (ss : List (Nat × Nat)) (l : Nat × Nat) (f : List (Nat × Nat) × List Nat) : Bool :=
 okP l f.2 && t.has (markS f.1 (lastP l f.2)) && (undoS (markS f.1 (lastP l f.2)) == f.1) && (undoL (markS f.1 (lastP l f.2)) == lastP l f.2)
def nodeB (t : Ts) (k : Nat) : Bool :=
 okP (undoL k) (shutF (undoS k) []) && [1, 2, 3, 4].all fun x => Nat.ble 4 (eat ((undoS k).headD (0, 0)) x).1.2 || edgeB t (undoS k) (undoL k) (flow (undoS k) [x])
abbrev Ts.o (a : Nat) : Ts := .n .e a .e
def treeS : Ts := (.n (.n (.n (.n (.n (.n (.n (.n (.n (.n (.o 0) 160 (.o 192)) 224 (.n (.o 288) 320 (.o 352))) 416 (.n (.n (.o 448) 480 (.o 544)) 6432 (.n (.o 6464) 6496 .e))) 6560 (.n (.n (.n (.o 6592) 6624 (.o 6688)) 10400 (.n (.o 10432) 10464 .e)) 10656 (.n (.n (.o 10688) 10720 (.o 10784)) 14496 (.n (.o 14528) 14560 .e)))) 14624 (.n (.n (.n (.n (.o 14656) 14688 (.o 14880)) 205984 (.n (.o 206016) 206048 (.o 206240))) 206272 (.n (.n (.o 206304) 206368 (.o 210080)) 210112 (.n (.o 210144) 210208 .e))) 210240 (.n (.n (.n (.o 210272) 210464 (.o 214176)) 214208 (.n (.o 214240) 214304 .e)) 214336 (.n (.n (.o 214368) 214432 (.o 214464)) 214496 (.n (.o 214560) 334112 .e))))) 334144 (.n (.n (.n (.n (.n (.o 334176) 334240 (.o 334272)) 334304 (.n (.o 334368) 342176 (.o 342208))) 342240 (.n (.n (.o 342304) 342336 (.o 342368)) 342560 (.n (.o 464160) 464192 .e))) 464224 (.n (.n (.n (.o 464288) 464320 (.o 464352)) 464416 (.n (.o 468128) 468160 .e)) 468192 (.n (.n (.o 468384) 468416 (.o 468448)) 468512 (.n (.o 5544233) 5544234 .e)))) 5544235 (.n (.n (.n (.n (.o 5544237) 5544238 (.o 5544265)) 5544266 (.n (.o 5544267) 5544269 .e)) 5544270 (.n (.n (.o 5544297) 5544298 (.o 5544299)) 5544301 (.n (.o 5544302) 5544361 .e))) 5544362 (.n (.n (.n (.o 5544363) 5544365 (.o 5544366)) 5544393 (.n (.o 5544394) 5544395 .e)) 5544397 (.n (.n (.o 5544398) 5544425 (.o 5544426)) 5544427 (.n (.o 5544429) 5544430 .e)))))) 5544489 (.n (.n (.n (.n (.n (.n (.o 5544490) 5544491 (.o 5544493)) 5544494 (.n (.o 5551274) 5551275 (.o 5551277))) 5551278 (.n (.n (.o 5551306) 5551307 (.o 5551309)) 5551310 (.n (.o 5551338) 5551339 .e))) 5551341 (.n (.n (.n (.o 5551342) 5551402 (.o 5551403)) 5551405 (.n (.o 5551406) 5551434 .e)) 5551435 (.n (.n (.o 5551437) 5551438 (.o 5551466)) 5551467 (.n (.o 5551469) 5551470 .e)))) 5551658 (.n (.n (.n (.n (.o 5551659) 5551661 (.o 5551662)) 5552297 (.n (.o 5552298) 5552299 (.o 5552301))) 5552302 (.n (.n (.o 5552329) 5552330 (.o 5552331)) 5552333 (.n (.o 5552334) 5552361 .e))) 5552362 (.n (.n (.n (.o 5552363) 5552365 (.o 5552366)) 5552425 (.n (.o 5552426) 5552427 .e)) 5552429 (.n (.n (.o 5552430) 5552457 (.o 5552458)) 5552459 (.n (.o 5552461) 5552462 .e))))) 5552489 (.n (.n (.n (.n (.n (.o 5552490) 5552491 (.o 5552493)) 5552494 (.n (.o 5552681) 5552682 (.o 5552683))) 5552685 (.n (.n (.o 5552686) 5575977 (.o 5576009)) 5576041 (.n (.o 5576105) 5576137 .e))) 5576169 (.n (.n (.n (.o 5576233) 5577001 (.o 5577002)) 5577003 (.n (.o 5577033) 5577034 .e)) 5577035 (.n (.n (.o 5577065) 5577066 (.o 5577067)) 5577129 (.n (.o 5577130) 5577131 .e)))) 5577161 (.n (.n (.n (.n (.o 5577162) 5577163 (.o 5577193)) 5577194 (.n (.o 5577195) 5577257 .e)) 5577258 (.n (.n (.o 5577259) 5584041 (.o 5584073)) 5584105 (.n (.o 5584169) 5584201 .e))) 5584233 (.n (.n (.n (.o 5584425) 5585065 (.o 5585066)) 5585067 (.n (.o 5585097) 5585098 .e)) 5585099 (.n (.n (.o 5585129) 5585130 (.o 5585131)) 5585193 (.n (.o 5585194) 5585195 .e))))))) 5585225 (.n (.n (.n (.n (.n (.n (.n (.o 5585226) 5585227 (.o 5585257)) 5585258 (.n (.o 5585259) 5585449 (.o 5585450))) 5585451 (.n (.n (.o 5675305) 5675306 (.o 5675307)) 5675309 (.n (.o 5675337) 5675338 .e))) 5675339 (.n (.n (.n (.o 5675341) 5675369 (.o 5675370)) 5675371 (.n (.o 5675373) 5675433 .e)) 5675434 (.n (.n (.o 5675435) 5675437 (.o 5675465)) 5675466 (.n (.o 5675467) 5675469 .e)))) 5675497 (.n (.n (.n (.n (.o 5675498) 5675499 (.o 5675501)) 5675561 (.n (.o 5675562) 5675563 (.o 5675565))) 5678250 (.n (.n (.o 5678251) 5678253 (.o 5678254)) 5678282 (.n (.o 5678283) 5678285 .e))) 5678286 (.n (.n (.n (.o 5678314) 5678315 (.o 5678317)) 5678318 (.n (.o 5678506) 5678507 .e)) 5678509 (.n (.n (.o 5678510) 5678538 (.o 5678539)) 5678541 (.n (.o 5678542) 5678570 .e))))) 5678571 (.n (.n (.n (.n (.n (.o 5678573) 5678574 (.o 5678634)) 5678635 (.n (.o 5678637) 5678638 (.o 5679273))) 5679274 (.n (.n (.o 5679275) 5679277 (.o 5679305)) 5679306 (.n (.o 5679307) 5679309 .e))) 5679337 (.n (.n (.n (.o 5679338) 5679339 (.o 5679341)) 5679529 (.n (.o 5679530) 5679531 .e)) 5679533 (.n (.n (.o 5679561) 5679562 (.o 5679563)) 5679565 (.n (.o 5679593) 5679594 .e)))) 5679595 (.n (.n (.n (.n (.o 5679597) 5679657 (.o 5679658)) 5679659 (.n (.o 5679661) 5707049 .e)) 5707050 (.n (.n (.o 5707051) 5707081 (.o 5707082)) 5707083 (.n (.o 5707113) 5707114 .e))) 5707115 (.n (.n (.n (.o 5707177) 5707178 (.o 5707179)) 5707209 (.n (.o 5707210) 5707211 .e)) 5707241 (.n (.n (.o 5707242) 5707243 (.o 5707305)) 5707306 (.n (.o 5707307) 5711017 .e)))))) 5711018 (.n (.n (.n (.n (.n (.n (.o 5711019) 5711049 (.o 5711050)) 5711051 (.n (.o 5711081) 5711082 (.o 5711083))) 5711273 (.n (.n (.o 5711274) 5711275 (.o 5711305)) 5711306 (.n (.o 5711307) 5711337 .e))) 5711338 (.n (.n (.n (.o 5711339) 5711401 (.o 5711402)) 5711403 (.n (.o 5806377) 5806378 .e)) 5806379 (.n (.n (.o 5806381) 5806382 (.o 5806409)) 5806410 (.n (.o 5806411) 5806413 .e)))) 5806414 (.n (.n (.n (.n (.o 5806441) 5806442 (.o 5806443)) 5806445 (.n (.o 5806446) 5806505 (.o 5806506))) 5806507 (.n (.n (.o 5806509) 5806510 (.o 5806537)) 5806538 (.n (.o 5806539) 5806541 .e))) 5806542 (.n (.n (.n (.o 5806569) 5806570 (.o 5806571)) 5806573 (.n (.o 5806574) 5806633 .e)) 5806634 (.n (.n (.o 5806635) 5806637 (.o 5806638)) 5810345 (.n (.o 5810346) 5810347 .e))))) 5810349 (.n (.n (.n (.n (.n (.o 5810350) 5810377 (.o 5810378)) 5810379 (.n (.o 5810381) 5810382 (.o 5810409))) 5810410 (.n (.n (.o 5810411) 5810413 (.o 5810414)) 5810601 (.n (.o 5810602) 5810603 .e))) 5810605 (.n (.n (.n (.o 5810606) 5810633 (.o 5810634)) 5810635 (.n (.o 5810637) 5810638 .e)) 5810665 (.n (.n (.o 5810666) 5810667 (.o 5810669)) 5810670 (.n (.o 5810729) 5810730 .e)))) 5810731 (.n (.n (.n (.n (.o 5810733) 5810734 (.o 5814441)) 5814442 (.n (.o 5814443) 5814445 .e)) 5814446 (.n (.n (.o 5814473) 5814474 (.o 5814475)) 5814477 (.n (.o 5814478) 5814505 .e))) 5814506 (.n (.n (.n (.o 5814507) 5814509 (.o 5814510)) 5814569 (.n (.o 5814570) 5814571 .e)) 5814573 (.n (.n (.o 5814574) 5814601 (.o 5814602)) 5814603 (.n (.o 5814605) 5814606 .e)))))))) 5814633 (.n (.n (.n (.n (.n (.n (.n (.n (.o 5814634) 5814635 (.o 5814637)) 5814638 (.n (.o 5814825) 5814826 (.o 5814827))) 5814829 (.n (.n (.o 5814830) 6591776 (.o 6591789)) 6591793 (.n (.o 6591808) 6591821 .e))) 6591825 (.n (.n (.n (.o 6591840) 6591853 (.o 6591857)) 6591904 (.n (.o 6591917) 6591921 .e)) 6591936 (.n (.n (.o 6591949) 6591953 (.o 6591968)) 6591981 (.n (.o 6591985) 6592032 .e)))) 6592045 (.n (.n (.n (.n (.o 6592049) 6592813 (.o 6592845)) 6592877 (.n (.o 6592941) 6592973 (.o 6593005))) 6593069 (.n (.n (.o 6599840) 6599857 (.o 6599872)) 6599889 (.n (.o 6599904) 6599921 .e))) 6599968 (.n (.n (.n (.o 6599985) 6600000 (.o 6600017)) 6600032 (.n (.o 6600049) 6600224 .e)) 6600241 (.n (.n (.o 6600877) 6600909 (.o 6600941)) 6601005 (.n (.o 6601037) 6601069 .e))))) 6601261 (.n (.n (.n (.n (.n (.o 6624553) 6624554 (.o 6624557)) 6624585 (.n (.o 6624586) 6624589 (.o 6624617))) 6624618 (.n (.n (.o 6624621) 6624681 (.o 6624682)) 6624685 (.n (.o 6624713) 6624714 .e))) 6624717 (.n (.n (.n (.o 6624745) 6624746 (.o 6624749)) 6624809 (.n (.o 6624810) 6624813 .e)) 6625577 (.n (.n (.o 6625578) 6625609 (.o 6625610)) 6625641 (.n (.o 6625642) 6625705 .e)))) 6625706 (.n (.n (.n (.n (.o 6625737) 6625738 (.o 6625769)) 6625770 (.n (.o 6625833) 6625834 .e)) 6632617 (.n (.n (.o 6632618) 6632621 (.o 6632649)) 6632650 (.n (.o 6632653) 6632681 .e))) 6632682 (.n (.n (.n (.o 6632685) 6632745 (.o 6632746)) 6632749 (.n (.o 6632777) 6632778 .e)) 6632781 (.n (.n (.o 6632809) 6632810 (.o 6632813)) 6633001 (.n (.o 6633002) 6633005 .e)))))) 6633641 (.n (.n (.n (.n (.n (.n (.o 6633642) 6633673 (.o 6633674)) 6633705 (.n (.o 6633706) 6633769 (.o 6633770))) 6633801 (.n (.n (.o 6633802) 6633833 (.o 6633834)) 6634025 (.n (.o 6634026) 6722848 .e))) 6722857 (.n (.n (.n (.o 6722858) 6722865 (.o 6722880)) 6722889 (.n (.o 6722890) 6722897 .e)) 6722912 (.n (.n (.o 6722921) 6722922 (.o 6722929)) 6722976 (.n (.o 6722985) 6722986 .e)))) 6722993 (.n (.n (.n (.n (.o 6723008) 6723017 (.o 6723018)) 6723025 (.n (.o 6723040) 6723049 (.o 6723050))) 6723057 (.n (.n (.o 6723104) 6723113 (.o 6723114)) 6723121 (.n (.o 6723881) 6723882 .e))) 6723913 (.n (.n (.n (.o 6723914) 6723945 (.o 6723946)) 6724009 (.n (.o 6724010) 6724041 .e)) 6724042 (.n (.n (.o 6724073) 6724074 (.o 6724137)) 6724138 (.n (.o 6726816) 6726833 .e))))) 6726848 (.n (.n (.n (.n (.n (.o 6726865) 6726880 (.o 6726897)) 6727072 (.n (.o 6727089) 6727104 (.o 6727121))) 6727136 (.n (.n (.o 6727153) 6727200 (.o 6727217)) 6727849 (.n (.o 6727850) 6727881 .e))) 6727882 (.n (.n (.n (.o 6727913) 6727914 (.o 6728105)) 6728106 (.n (.o 6728137) 6728138 .e)) 6728169 (.n (.n (.o 6728170) 6728233 (.o 6728234)) 6755625 (.n (.o 6755626) 6755657 .e)))) 6755658 (.n (.n (.n (.n (.o 6755689) 6755690 (.o 6755753)) 6755754 (.n (.o 6755785) 6755786 .e)) 6755817 (.n (.n (.o 6755818) 6755881 (.o 6755882)) 6759593 (.n (.o 6759594) 6759625 .e))) 6759626 (.n (.n (.n (.o 6759657) 6759658 (.o 6759849)) 6759850 (.n (.o 6759881) 6759882 .e)) 6759913 (.n (.n (.o 6759914) 6759977 (.o 6759978)) 9610405 (.n (.o 9610413) 9610414 .e))))))) 9610437 (.n (.n (.n (.n (.n (.n (.n (.o 9610445) 9610446 (.o 9610469)) 9610477 (.n (.o 9610478) 9610661 (.o 9610669))) 9610670 (.n (.n (.o 9610693) 9610701 (.o 9610702)) 9610725 (.n (.o 9610733) 9610734 .e))) 9610789 (.n (.n (.n (.o 9610797) 9610798 (.o 9611429)) 9611437 (.n (.o 9611438) 9611461 .e)) 9611469 (.n (.n (.o 9611470) 9611493 (.o 9611501)) 9611502 (.n (.o 9611685) 9611693 .e)))) 9611694 (.n (.n (.n (.n (.o 9611717) 9611725 (.o 9611726)) 9611749 (.n (.o 9611757) 9611758 (.o 9611813))) 9611821 (.n (.n (.o 9611822) 9614501 (.o 9614509)) 9614510 (.n (.o 9614533) 9614541 .e))) 9614542 (.n (.n (.n (.o 9614565) 9614573 (.o 9614574)) 9614629 (.n (.o 9614637) 9614638 .e)) 9614661 (.n (.n (.o 9614669) 9614670 (.o 9614693)) 9614701 (.n (.o 9614702) 9614885 .e))))) 9614893 (.n (.n (.n (.n (.n (.o 9614894) 9615525 (.o 9615533)) 9615534 (.n (.o 9615557) 9615565 (.o 9615566))) 9615589 (.n (.n (.o 9615597) 9615598 (.o 9615653)) 9615661 (.n (.o 9615662) 9615685 .e))) 9615693 (.n (.n (.n (.o 9615694) 9615717 (.o 9615725)) 9615726 (.n (.o 9615909) 9615917 .e)) 9615918 (.n (.n (.o 9618597) 9618605 (.o 9618606)) 9618629 (.n (.o 9618637) 9618638 .e)))) 9618661 (.n (.n (.n (.n (.o 9618669) 9618670 (.o 9618725)) 9618733 (.n (.o 9618734) 9618757 .e)) 9618765 (.n (.n (.o 9618766) 9618789 (.o 9618797)) 9618798 (.n (.o 9618853) 9618861 .e))) 9618862 (.n (.n (.n (.o 9618885) 9618893 (.o 9618894)) 9618917 (.n (.o 9618925) 9618926 .e)) 9618981 (.n (.n (.o 9618989) 9618990 (.o 9644197)) 9644199 (.n (.o 9644229) 9644231 .e)))))) 9644261 (.n (.n (.n (.n (.n (.n (.o 9644263) 9644453 (.o 9644455)) 9644485 (.n (.o 9644487) 9644517 (.o 9644519))) 9644581 (.n (.n (.o 9644583) 9647270 (.o 9647271)) 9647302 (.n (.o 9647303) 9647334 .e))) 9647335 (.n (.n (.n (.o 9647398) 9647399 (.o 9647430)) 9647431 (.n (.o 9647462) 9647463 .e)) 9647654 (.n (.n (.o 9647655) 9648293 (.o 9648295)) 9648325 (.n (.o 9648327) 9648357 .e)))) 9648359 (.n (.n (.n (.n (.o 9648421) 9648423 (.o 9648453)) 9648455 (.n (.o 9648485) 9648487 (.o 9648677))) 9648679 (.n (.n (.o 9651366) 9651367 (.o 9651398)) 9651399 (.n (.o 9651430) 9651431 .e))) 9651494 (.n (.n (.n (.o 9651495) 9651526 (.o 9651527)) 9651558 (.n (.o 9651559) 9651622 .e)) 9651623 (.n (.n (.o 9651654) 9651655 (.o 9651686)) 9651687 (.n (.o 9651750) 9651751 .e))))) 9868582 (.n (.n (.n (.n (.n (.o 9868583) 9868589 (.o 9868590)) 9868614 (.n (.o 9868615) 9868621 (.o 9868622))) 9868646 (.n (.n (.o 9868647) 9868653 (.o 9868654)) 9868710 (.n (.o 9868711) 9868717 .e))) 9868718 (.n (.n (.n (.o 9868742) 9868743 (.o 9868749)) 9868750 (.n (.o 9868774) 9868775 .e)) 9868781 (.n (.n (.o 9868782) 9868838 (.o 9868839)) 9868845 (.n (.o 9868846) 9869605 .e)))) 9869606 (.n (.n (.n (.n (.o 9869607) 9869613 (.o 9869614)) 9869637 (.n (.o 9869638) 9869639 .e)) 9869645 (.n (.n (.o 9869646) 9869669 (.o 9869670)) 9869671 (.n (.o 9869677) 9869678 .e))) 9869733 (.n (.n (.n (.o 9869734) 9869735 (.o 9869741)) 9869742 (.n (.o 9869765) 9869766 .e)) 9869767 (.n (.n (.o 9869773) 9869774 (.o 9869797)) 9869798 (.n (.o 9869799) 9869805 .e))))))))) 9869806 (.n (.n (.n (.n (.n (.n (.n (.n (.n (.o 9869861) 9869862 (.o 9869863)) 9869869 (.n (.o 9869870) 9872550 (.o 9872551))) 9872557 (.n (.n (.o 9872558) 9872582 (.o 9872583)) 9872589 (.n (.o 9872590) 9872614 .e))) 9872615 (.n (.n (.n (.o 9872621) 9872622 (.o 9872806)) 9872807 (.n (.o 9872813) 9872814 .e)) 9872838 (.n (.n (.o 9872839) 9872845 (.o 9872846)) 9872870 (.n (.o 9872871) 9872877 .e)))) 9872878 (.n (.n (.n (.n (.o 9872934) 9872935 (.o 9872941)) 9872942 (.n (.o 9873573) 9873574 (.o 9873575))) 9873581 (.n (.n (.o 9873582) 9873605 (.o 9873606)) 9873607 (.n (.o 9873613) 9873614 .e))) 9873637 (.n (.n (.n (.o 9873638) 9873639 (.o 9873645)) 9873646 (.n (.o 9873829) 9873830 .e)) 9873831 (.n (.n (.o 9873837) 9873838 (.o 9873861)) 9873862 (.n (.o 9873863) 9873869 .e))))) 9873870 (.n (.n (.n (.n (.n (.o 9873893) 9873894 (.o 9873895)) 9873901 (.n (.o 9873902) 9873957 (.o 9873958))) 9873959 (.n (.n (.o 9873965) 9873966 (.o 9901350)) 9901351 (.n (.o 9901382) 9901383 .e))) 9901414 (.n (.n (.n (.o 9901415) 9901478 (.o 9901479)) 9901510 (.n (.o 9901511) 9901542 .e)) 9901543 (.n (.n (.o 9901606) 9901607 (.o 9905318)) 9905319 (.n (.o 9905350) 9905351 .e)))) 9905382 (.n (.n (.n (.n (.o 9905383) 9905574 (.o 9905575)) 9905606 (.n (.o 9905607) 9905638 .e)) 9905639 (.n (.n (.o 9905702) 9905703 (.o 10658982)) 10658989 (.n (.o 10659014) 10659021 .e))) 10659046 (.n (.n (.n (.o 10659053) 10659238 (.o 10659245)) 10659270 (.n (.o 10659277) 10659302 .e)) 10659309 (.n (.n (.o 10659366) 10659373 (.o 10660005)) 10660006 (.n (.o 10660037) 10660038 .e)))))) 10660069 (.n (.n (.n (.n (.n (.n (.o 10660070) 10660261 (.o 10660262)) 10660293 (.n (.o 10660294) 10660325 (.o 10660326))) 10660389 (.n (.n (.o 10660390) 10663078 (.o 10663085)) 10663110 (.n (.o 10663117) 10663142 .e))) 10663149 (.n (.n (.n (.o 10663206) 10663213 (.o 10663238)) 10663245 (.n (.o 10663270) 10663277 .e)) 10663462 (.n (.n (.o 10663469) 10664101 (.o 10664102)) 10664133 (.n (.o 10664134) 10664165 .e)))) 10664166 (.n (.n (.n (.n (.o 10664229) 10664230 (.o 10664261)) 10664262 (.n (.o 10664293) 10664294 (.o 10664485))) 10664486 (.n (.n (.o 10667174) 10667181 (.o 10667206)) 10667213 (.n (.o 10667238) 10667245 .e))) 10667302 (.n (.n (.n (.o 10667309) 10667334 (.o 10667341)) 10667366 (.n (.o 10667373) 10667430 .e)) 10667437 (.n (.n (.o 10667462) 10667469 (.o 10667494)) 10667501 (.n (.o 10667558) 10667565 .e))))) 10692773 (.n (.n (.n (.n (.n (.o 10692774) 10692781 (.o 10692805)) 10692806 (.n (.o 10692813) 10692837 (.o 10692838))) 10692845 (.n (.n (.o 10693029) 10693030 (.o 10693037)) 10693061 (.n (.o 10693062) 10693069 .e))) 10693093 (.n (.n (.n (.o 10693094) 10693101 (.o 10693157)) 10693158 (.n (.o 10693165) 10695840 .e)) 10695845 (.n (.n (.o 10695846) 10695853 (.o 10695857)) 10695872 (.n (.o 10695877) 10695878 .e)))) 10695885 (.n (.n (.n (.n (.o 10695889) 10695904 (.o 10695909)) 10695910 (.n (.o 10695917) 10695921 .e)) 10695968 (.n (.n (.o 10695973) 10695974 (.o 10695981)) 10695985 (.n (.o 10696000) 10696005 .e))) 10696006 (.n (.n (.n (.o 10696013) 10696017 (.o 10696032)) 10696037 (.n (.o 10696038) 10696045 .e)) 10696049 (.n (.n (.o 10696224) 10696229 (.o 10696230)) 10696237 (.n (.o 10696241) 10696869 .e))))))) 10696870 (.n (.n (.n (.n (.n (.n (.n (.o 10696877) 10696901 (.o 10696902)) 10696909 (.n (.o 10696933) 10696934 (.o 10696941))) 10696997 (.n (.n (.o 10696998) 10697005 (.o 10697029)) 10697030 (.n (.o 10697037) 10697061 .e))) 10697062 (.n (.n (.n (.o 10697069) 10697253 (.o 10697254)) 10697261 (.n (.o 10699936) 10699941 .e)) 10699942 (.n (.n (.o 10699949) 10699953 (.o 10699968)) 10699973 (.n (.o 10699974) 10699981 .e)))) 10699985 (.n (.n (.n (.n (.o 10700000) 10700005 (.o 10700006)) 10700013 (.n (.o 10700017) 10700064 (.o 10700069))) 10700070 (.n (.n (.o 10700077) 10700081 (.o 10700096)) 10700101 (.n (.o 10700102) 10700109 .e))) 10700113 (.n (.n (.n (.o 10700128) 10700133 (.o 10700134)) 10700141 (.n (.o 10700145) 10700192 .e)) 10700197 (.n (.n (.o 10700198) 10700205 (.o 10700209)) 10700224 (.n (.o 10700229) 10700230 .e))))) 10700237 (.n (.n (.n (.n (.n (.o 10700241) 10700256 (.o 10700261)) 10700262 (.n (.o 10700269) 10700273 (.o 10700320))) 10700325 (.n (.n (.o 10700326) 10700333 (.o 10700337)) 10917157 (.n (.o 10917158) 10917165 .e))) 10917189 (.n (.n (.n (.o 10917190) 10917197 (.o 10917221)) 10917222 (.n (.o 10917229) 10917285 .e)) 10917286 (.n (.n (.o 10917293) 10917317 (.o 10917318)) 10917325 (.n (.o 10917349) 10917350 .e)))) 10917357 (.n (.n (.n (.n (.o 10917413) 10917414 (.o 10917421)) 10918181 (.n (.o 10918182) 10918213 .e)) 10918214 (.n (.n (.o 10918245) 10918246 (.o 10918309)) 10918310 (.n (.o 10918341) 10918342 .e))) 10918373 (.n (.n (.n (.o 10918374) 10918437 (.o 10918438)) 10921125 (.n (.o 10921126) 10921133 .e)) 10921157 (.n (.n (.o 10921158) 10921165 (.o 10921189)) 10921190 (.n (.o 10921197) 10921381 .e)))))) 10921382 (.n (.n (.n (.n (.n (.n (.o 10921389) 10921413 (.o 10921414)) 10921421 (.n (.o 10921445) 10921446 (.o 10921453))) 10921509 (.n (.n (.o 10921510) 10921517 (.o 10922149)) 10922150 (.n (.o 10922181) 10922182 .e))) 10922213 (.n (.n (.n (.o 10922214) 10922405 (.o 10922406)) 10922437 (.n (.o 10922438) 10922469 .e)) 10922470 (.n (.n (.o 10922533) 10922534 (.o 10949920)) 10949925 (.n (.o 10949926) 10949933 .e)))) 10949937 (.n (.n (.n (.n (.o 10949952) 10949957 (.o 10949958)) 10949965 (.n (.o 10949969) 10949984 (.o 10949989))) 10949990 (.n (.n (.o 10949997) 10950001 (.o 10950048)) 10950053 (.n (.o 10950054) 10950061 .e))) 10950065 (.n (.n (.n (.o 10950080) 10950085 (.o 10950086)) 10950093 (.n (.o 10950097) 10950112 .e)) 10950117 (.n (.n (.o 10950118) 10950125 (.o 10950129)) 10950176 (.n (.o 10950181) 10950182 .e))))) 10950189 (.n (.n (.n (.n (.n (.o 10950193) 10953888 (.o 10953893)) 10953894 (.n (.o 10953901) 10953905 (.o 10953920))) 10953925 (.n (.n (.o 10953926) 10953933 (.o 10953937)) 10953952 (.n (.o 10953957) 10953958 .e))) 10953965 (.n (.n (.n (.o 10953969) 10954144 (.o 10954149)) 10954150 (.n (.o 10954157) 10954161 .e)) 10954176 (.n (.n (.o 10954181) 10954182 (.o 10954189)) 10954193 (.n (.o 10954208) 10954213 .e)))) 10954214 (.n (.n (.n (.n (.o 10954221) 10954225 (.o 10954272)) 10954277 (.n (.o 10954278) 10954285 .e)) 10954289 (.n (.n (.o 13804709) 13804713 (.o 13804714)) 13804715 (.n (.o 13804741) 13804745 .e))) 13804746 (.n (.n (.n (.o 13804747) 13804773 (.o 13804777)) 13804778 (.n (.o 13804779) 13804965 .e)) 13804969 (.n (.n (.o 13804970) 13804971 (.o 13804997)) 13805001 (.n (.o 13805002) 13805003 .e)))))))) 13805029 (.n (.n (.n (.n (.n (.n (.n (.n (.o 13805033) 13805034 (.o 13805035)) 13805093 (.n (.o 13805097) 13805098 (.o 13805099))) 13808805 (.n (.n (.o 13808809) 13808810 (.o 13808811)) 13808837 (.n (.o 13808841) 13808842 .e))) 13808843 (.n (.n (.n (.o 13808869) 13808873 (.o 13808874)) 13808875 (.n (.o 13808933) 13808937 .e)) 13808938 (.n (.n (.o 13808939) 13808965 (.o 13808969)) 13808970 (.n (.o 13808971) 13808997 .e)))) 13809001 (.n (.n (.n (.n (.o 13809002) 13809003 (.o 13809189)) 13809193 (.n (.o 13809194) 13809195 (.o 13812901))) 13812905 (.n (.n (.o 13812906) 13812907 (.o 13812933)) 13812937 (.n (.o 13812938) 13812939 .e))) 13812965 (.n (.n (.n (.o 13812969) 13812970 (.o 13812971)) 13813029 (.n (.o 13813033) 13813034 .e)) 13813035 (.n (.n (.o 13813061) 13813065 (.o 13813066)) 13813067 (.n (.o 13813093) 13813097 .e))))) 13813098 (.n (.n (.n (.n (.n (.o 13813099) 13813157 (.o 13813161)) 13813162 (.n (.o 13813163) 13813189 (.o 13813193))) 13813194 (.n (.n (.o 13813195) 13813221 (.o 13813225)) 13813226 (.n (.o 13813227) 13813285 .e))) 13813289 (.n (.n (.n (.o 13813290) 13813291 (.o 13837477)) 13837478 (.n (.o 13837479) 13837509 .e)) 13837510 (.n (.n (.o 13837511) 13837541 (.o 13837542)) 13837543 (.n (.o 13837733) 13837734 .e)))) 13837735 (.n (.n (.n (.n (.o 13837765) 13837766 (.o 13837767)) 13837797 (.n (.o 13837798) 13837799 .e)) 13837861 (.n (.n (.o 13837862) 13837863 (.o 13838501)) 13838503 (.n (.o 13838505) 13838506 .e))) 13838507 (.n (.n (.n (.o 13838533) 13838535 (.o 13838537)) 13838538 (.n (.o 13838539) 13838565 .e)) 13838567 (.n (.n (.o 13838569) 13838570 (.o 13838571)) 13838757 (.n (.o 13838759) 13838761 .e)))))) 13838762 (.n (.n (.n (.n (.n (.n (.o 13838763) 13838789 (.o 13838791)) 13838793 (.n (.o 13838794) 13838795 (.o 13838821))) 13838823 (.n (.n (.o 13838825) 13838826 (.o 13838827)) 13838885 (.n (.o 13838887) 13838889 .e))) 13838890 (.n (.n (.n (.o 13838891) 13842597 (.o 13842599)) 13842601 (.n (.o 13842602) 13842603 .e)) 13842629 (.n (.n (.o 13842631) 13842633 (.o 13842634)) 13842635 (.n (.o 13842661) 13842663 .e)))) 13842665 (.n (.n (.n (.n (.o 13842666) 13842667 (.o 13842725)) 13842727 (.n (.o 13842729) 13842730 (.o 13842731))) 13842757 (.n (.n (.o 13842759) 13842761 (.o 13842762)) 13842763 (.n (.o 13842789) 13842791 .e))) 13842793 (.n (.n (.n (.o 13842794) 13842795 (.o 13842981)) 13842983 (.n (.o 13842985) 13842986 .e)) 13842987 (.n (.n (.o 13845669) 13845670 (.o 13845671)) 13845701 (.n (.o 13845702) 13845703 .e))))) 13845733 (.n (.n (.n (.n (.n (.o 13845734) 13845735 (.o 13845797)) 13845798 (.n (.o 13845799) 13845829 (.o 13845830))) 13845831 (.n (.n (.o 13845861) 13845862 (.o 13845863)) 13845925 (.n (.o 13845926) 13845927 .e))) 13845957 (.n (.n (.n (.o 13845958) 13845959 (.o 13845989)) 13845990 (.n (.o 13845991) 13846053 .e)) 13846054 (.n (.n (.o 13846055) 13931813 (.o 13931814)) 13931815 (.n (.o 13931817) 13931818 .e)))) 13931819 (.n (.n (.n (.n (.o 13931845) 13931846 (.o 13931847)) 13931849 (.n (.o 13931850) 13931851 .e)) 13931877 (.n (.n (.o 13931878) 13931879 (.o 13931881)) 13931882 (.n (.o 13931883) 13931941 .e))) 13931942 (.n (.n (.n (.o 13931943) 13931945 (.o 13931946)) 13931947 (.n (.o 13931973) 13931974 .e)) 13931975 (.n (.n (.o 13931977) 13931978 (.o 13931979)) 13932005 (.n (.o 13932006) 13932007 .e))))))) 13932009 (.n (.n (.n (.n (.n (.n (.n (.o 13932010) 13932011 (.o 13932069)) 13932070 (.n (.o 13932071) 13932073 (.o 13932074))) 13932075 (.n (.n (.o 13939877) 13939878 (.o 13939879)) 13939881 (.n (.o 13939882) 13939883 .e))) 13939909 (.n (.n (.n (.o 13939910) 13939911 (.o 13939913)) 13939914 (.n (.o 13939915) 13939941 .e)) 13939942 (.n (.n (.o 13939943) 13939945 (.o 13939946)) 13939947 (.n (.o 13940005) 13940006 .e)))) 13940007 (.n (.n (.n (.n (.o 13940009) 13940010 (.o 13940011)) 13940037 (.n (.o 13940038) 13940039 (.o 13940041))) 13940042 (.n (.n (.o 13940043) 13940069 (.o 13940070)) 13940071 (.n (.o 13940073) 13940074 .e))) 13940075 (.n (.n (.n (.o 13940261) 13940262 (.o 13940263)) 13940265 (.n (.o 13940266) 13940267 .e)) 13964581 (.n (.n (.o 13964582) 13964583 (.o 13964585)) 13964586 (.n (.o 13964587) 13964613 .e))))) 13964614 (.n (.n (.n (.n (.n (.o 13964615) 13964617 (.o 13964618)) 13964619 (.n (.o 13964645) 13964646 (.o 13964647))) 13964649 (.n (.n (.o 13964650) 13964651 (.o 13964709)) 13964710 (.n (.o 13964711) 13964713 .e))) 13964714 (.n (.n (.n (.o 13964715) 13964741 (.o 13964742)) 13964743 (.n (.o 13964745) 13964746 .e)) 13964747 (.n (.n (.o 13964773) 13964774 (.o 13964775)) 13964777 (.n (.o 13964778) 13964779 .e)))) 13964837 (.n (.n (.n (.n (.o 13964838) 13964839 (.o 13964841)) 13964842 (.n (.o 13964843) 13965605 .e)) 13965606 (.n (.n (.o 13965607) 13965637 (.o 13965638)) 13965639 (.n (.o 13965669) 13965670 .e))) 13965671 (.n (.n (.n (.o 13965733) 13965734 (.o 13965735)) 13965765 (.n (.o 13965766) 13965767 .e)) 13965797 (.n (.n (.o 13965798) 13965799 (.o 13965861)) 13965862 (.n (.o 13965863) 13972645 .e)))))) 13972646 (.n (.n (.n (.n (.n (.n (.o 13972647) 13972649 (.o 13972650)) 13972651 (.n (.o 13972677) 13972678 (.o 13972679))) 13972681 (.n (.n (.o 13972682) 13972683 (.o 13972709)) 13972710 (.n (.o 13972711) 13972713 .e))) 13972714 (.n (.n (.n (.o 13972715) 13972773 (.o 13972774)) 13972775 (.n (.o 13972777) 13972778 .e)) 13972779 (.n (.n (.o 13972805) 13972806 (.o 13972807)) 13972809 (.n (.o 13972810) 13972811 .e)))) 13972837 (.n (.n (.n (.n (.o 13972838) 13972839 (.o 13972841)) 13972842 (.n (.o 13972843) 13973029 .e)) 13973030 (.n (.n (.o 13973031) 13973033 (.o 13973034)) 13973035 (.n (.o 13973669) 13973670 .e))) 13973671 (.n (.n (.n (.o 13973701) 13973702 (.o 13973703)) 13973733 (.n (.o 13973734) 13973735 .e)) 13973797 (.n (.n (.o 13973798) 13973799 (.o 13973829)) 13973830 (.n (.o 13973831) 13973861 .e))))) 13973862 (.n (.n (.n (.n (.n (.o 13973863) 13974053 (.o 13974054)) 13974055 (.n (.o 18031782) 18031814 (.o 18031846))) 18032038 (.n (.n (.o 18032070) 18032102 (.o 18032166)) 18035878 (.n (.o 18035910) 18035942 .e))) 18036006 (.n (.n (.n (.o 18036038) 18036070 (.o 18036262)) 18039974 (.n (.o 18040006) 18040038 .e)) 18040102 (.n (.n (.o 18040134) 18040166 (.o 18040230)) 18040262 (.n (.o 18040294) 18040358 .e)))) 18159910 (.n (.n (.n (.n (.o 18159942) 18159974 (.o 18160038)) 18160070 (.n (.o 18160102) 18160166 .e)) 18167974 (.n (.n (.o 18168006) 18168038 (.o 18168102)) 18168134 (.n (.o 18168166) 18168358 .e))) 18289958 (.n (.n (.n (.o 18289990) 18290022 (.o 18290086)) 18290118 (.n (.o 18290150) 18290214 .e)) 18293926 (.n (.n (.o 18293958) 18293990 (.o 18294182)) 18294214 (.n (.o 18294246) 18294310 .e))))))))))
def Ts.l : Ts -> Ts
 | .e => .e
 | .n l _ _ => l
def Ts.r : Ts -> Ts
 | .e => .e
 | .n _ _ r => r
def Ts.top (p : Nat -> Bool) : Ts -> Bool
 | .e => true
 | .n _ k _ => p k
theorem Ts.of {p : Nat -> Bool} : ∀ {t : Ts}, t.top p = true -> t.l.all p = true -> t.r.all p = true -> t.all p = true
 | .e, _, _, _ => rfl
 | .n _ _ _, h, a, b => Bool.and_eq_true_iff.mpr ⟨h, Bool.and_eq_true_iff.mpr ⟨a, b⟩⟩
theorem sk_lll : (treeS.l.l.l).all (nodeB treeS) = true := by decide +kernel
theorem sk_llr : (treeS.l.l.r).all (nodeB treeS) = true := by decide +kernel
theorem sk_lrl : (treeS.l.r.l).all (nodeB treeS) = true := by decide +kernel
theorem sk_lrr : (treeS.l.r.r).all (nodeB treeS) = true := by decide +kernel
theorem sk_rll : (treeS.r.l.l).all (nodeB treeS) = true := by decide +kernel
theorem sk_rlr : (treeS.r.l.r).all (nodeB treeS) = true := by decide +kernel
theorem sk_rrl : (treeS.r.r.l).all (nodeB treeS) = true := by decide +kernel
theorem sk_rrr : (treeS.r.r.r).all (nodeB treeS) = true := by decide +kernel
theorem sp_o : (treeS).top (nodeB treeS) = true := by decide +kernel
theorem sp_l : (treeS.l).top (nodeB treeS) = true := by decide +kernel
theorem sp_r : (treeS.r).top (nodeB treeS) = true := by decide +kernel
theorem sp_ll : (treeS.l.l).top (nodeB treeS) = true := by decide +kernel
theorem sp_lr : (treeS.l.r).top (nodeB treeS) = true := by decide +kernel
theorem sp_rl : (treeS.r.l).top (nodeB treeS) = true := by decide +kernel
theorem sp_rr : (treeS.r.r).top (nodeB treeS) = true := by decide +kernel
theorem treeS_ok : treeS.all (nodeB treeS) = true := (Ts.of sp_o (Ts.of sp_l (Ts.of sp_ll sk_lll sk_llr) (Ts.of sp_lr sk_lrl sk_lrr)) (Ts.of sp_r (Ts.of sp_rl sk_rll sk_rlr) (Ts.of sp_rr sk_rrl sk_rrr)))
theorem flow_head (s : Nat × Nat) (ss : List (Nat × Nat)) (x : Nat) : (flow (s :: ss) [x]).1.headD (0, 0) = (eat s x).1 := rfl
theorem pairs_run : ∀ (r : List Nat) (k : Nat), treeS.has k = true -> fits ((undoS k).headD (0, 0)) r -> okP (undoL k) (shutF (undoS k) r) = true
 | [], k, hk, _ => by
  have := Ts.all_has treeS_ok hk
  unfold nodeB at this
  rw [Bool.and_eq_true] at this
  exact this.1
 | x :: r, k, hk, hf => by
  obtain ⟨hx, h3, hf⟩ := hf
  have hg := Ts.all_has treeS_ok hk
  unfold nodeB at hg
  rw [Bool.and_eq_true] at hg
  have hs := List.all_eq_true.mp hg.2 x (by simp; omega)
  rw [Bool.or_eq_true] at hs
  have hs := hs.resolve_left fun z => by
   have := Nat.le_of_ble_eq_true z
   omega
  unfold edgeB at hs
  rw [Bool.and_eq_true, Bool.and_eq_true, Bool.and_eq_true] at hs
  obtain ⟨⟨⟨a1, a2⟩, a3⟩, a4⟩ := hs
  have b3 : undoS (markS (flow (undoS k) [x]).1 (lastP (undoL k) (flow (undoS k) [x]).2)) = (flow (undoS k) [x]).1 := by simpa using a3
  have b4 : undoL (markS (flow (undoS k) [x]).1 (lastP (undoL k) (flow (undoS k) [x]).2)) = lastP (undoL k) (flow (undoS k) [x]).2 := by simpa using a4
  have hd : (flow (undoS k) [x]).1.headD (0, 0) = (eat ((undoS k).headD (0, 0)) x).1 := flow_head _ _ x
  have ih := pairs_run r _ a2 (by rw [b3, hd]; exact hf)
  rw [b3, b4] at ih
  have e : shutF (undoS k) (x :: r) = (flow (undoS k) [x]).2 ++ shutF (flow (undoS k) [x]).1 r := shutF_append (undoS k) [x] r
  rw [e, okP_append _ _ _ a1]
  exact ih
theorem okP_fl : ∀ (q : List (Nat × Nat)) (p : Nat × Nat), okP p (fl q) = true -> ∀ (i : Nat) (a b : Nat × Nat), (p :: q)[i]? = some a -> (p :: q)[i + 1]? = some b -> near a b = true
 | [], _, _, i, a, b, _, h2 => by simp at h2
 | (c, d) :: q, p, h, i, a, b, h1, h2 => by
  have h : (near p (c, d) && okP (c, d) (fl q)) = true := h
  rw [Bool.and_eq_true] at h
  cases i with
  | zero =>
   have e1 : p = a := by simpa using h1
   have e2 : (c, d) = b := by simpa using h2
   subst e1 e2
   exact h.1
  | succ i => exact okP_fl q (c, d) h.2 i a b (by simpa using h1) (by simpa using h2)
def alk (x : Nat × Nat) : Nat × Nat := (x.1, ab x.2)
theorem fl_alk : ∀ q : List (Nat × Nat), (∀ x ∈ q, x.1 <= 3) -> fl (q.map alk) = (fl q).map ab
 | [], _ => rfl
 | (c, d) :: q, h => by
  have h1 : c <= 3 := h (c, d) (by simp)
  rw [fl_cons]
  show c :: ab d :: fl (q.map alk) = ab c :: ab d :: (fl q).map ab
  rw [fl_alk q fun x hx => h x (by simp [hx]), ab_small h1]
theorem Calm.near {l : Row} (h : Calm l) : ∀ (i : Nat) (a b : Nat × Nat), (runs (Rc75.later 3 l))[i]? = some a -> (runs (Rc75.later 3 l))[i + 1]? = some b -> RA.near (alk a) (alk b) = true := by
 have g0 := h.say
 have g1 := h.next.say
 have g2 := h.next.next.say
 have g3 := h.next.next.next.say
 have := pairs_run (l.map ab) 0 (by decide +kernel) g0.2
 have e : shutF (undoS 0) (l.map ab) = RA.say (RA.say (RA.say (RA.say (l.map ab)))) := rfl
 rw [e, g0.1, g1.1, g2.1, g3.1] at this
 have c3 := (h.later 3).three
 have e2 : (Rc75.aloud (Rc75.aloud (Rc75.aloud (Rc75.aloud l)))).map ab = fl ((runs (Rc75.later 3 l)).map alk) := by rw [fl_alk _ c3]; rfl
 rw [e2] at this
 intro i a b h1 h2
 exact okP_fl _ _ this (i + 1) (alk a) (alk b) (by simp [h1]) (by simp [h2])
end RA
end
section
namespace RA
open Rc75
theorem nodup_le {α : Type} [DecidableEq α] : ∀ {l m : List α}, l.Nodup -> (∀ x ∈ l, x ∈ m) -> l.length <= m.length
 | [], _, _, _ => Nat.zero_le _
 | x :: l, m, nd, s => by
  rw [List.nodup_cons] at nd
  have hx := s x (by simp)
  have := nodup_le (l := l) (m := m.erase x) nd.2 fun y hy => (List.mem_erase_of_ne (fun e : y = x => nd.1 (by rw [<- e]; exact hy))).mpr (s y (by simp [hy]))
  rw [List.length_erase_of_mem hx] at this
  have h0 : 0 < m.length := List.length_pos_of_mem hx
  rw [List.length_cons]
  omega
def allRuns : List (Nat × Nat) := [1, 2, 3].flatMap fun n => [1, 2, 3, 4, 5, 6, 7, 8, 9].map fun d => (n, d)
def nexts (a : Nat × Nat) : List (Nat × Nat) := allRuns.filter fun b => near (alk a) (alk b)
def pathsFrom : Nat -> Nat × Nat -> List (List (Nat × Nat))
 | 0, a => [[a]]
 | n + 1, a => (nexts a).flatMap fun b => (pathsFrom n b).map (a :: ·)
def Path : List (Nat × Nat) -> Prop
 | [] => True
 | [a] => a ∈ allRuns
 | a :: b :: q => a ∈ allRuns /\ near (alk a) (alk b) = true /\ Path (b :: q)
theorem Path.first {a : Nat × Nat} {q : List (Nat × Nat)} (h : Path (a :: q)) : a ∈ allRuns := by
 cases q with
 | nil => exact h
 | cons b q => exact h.1
theorem Path.mem : ∀ {q : List (Nat × Nat)} {a : Nat × Nat}, Path (a :: q) -> a :: q ∈ pathsFrom q.length a
 | [], a, _ => by simp [pathsFrom]
 | b :: q, a, h => by
  have ih := Path.mem h.2.2
  refine List.mem_flatMap.mpr ⟨b, List.mem_filter.mpr ⟨h.2.2.first, h.2.1⟩, List.mem_map.mpr ⟨_, ih, rfl⟩⟩
theorem Path.take : ∀ {q : List (Nat × Nat)} (n : Nat), Path q -> Path (q.take n)
 | _, 0, _ => trivial
 | [], n + 1, _ => trivial
 | [a], n + 1, h => by simpa using h
 | a :: b :: q, 1, h => h.1
 | a :: b :: q, n + 2, h => ⟨h.1, h.2.1, Path.take (n + 1) h.2.2⟩
theorem Path.tail {a : Nat × Nat} {q : List (Nat × Nat)} (h : Path (a :: q)) : Path q := by
 cases q with
 | nil => trivial
 | cons b q => exact h.2.2
theorem Path.drop : ∀ {q : List (Nat × Nat)} (n : Nat), Path q -> Path (q.drop n)
 | q, 0, h => h
 | [], n + 1, h => h
 | a :: q, n + 1, h => Path.drop n h.tail
theorem Path.of : ∀ (q : List (Nat × Nat)), (∀ x ∈ q, x ∈ allRuns) -> (∀ (i : Nat) (a b : Nat × Nat), q[i]? = some a -> q[i + 1]? = some b -> near (alk a) (alk b) = true) -> Path q
 | [], _, _ => trivial
 | [a], h, _ => h a (by simp)
 | a :: b :: q, h, n => ⟨h a (by simp), n 0 a b rfl rfl, Path.of (b :: q) (fun x hx => h x (by simp at hx ⊢; exact .inr hx)) fun i c d h1 h2 => n (i + 1) c d (by simpa using h1) (by simpa using h2)⟩
def cntL : Nat -> List Nat
 | 0 => List.replicate 27 1
 | n + 1 => allRuns.map fun a => (((allRuns.zip (cntL n)).filter fun x => near (alk a) (alk x.1)).map (·.2)).sum
theorem zip_filter {β : Type} (f : Nat × Nat -> Nat) (p : Nat × Nat -> Bool) : ∀ l : List (Nat × Nat), (((l.zip (l.map f)).filter fun x => p x.1).map (·.2)) = (l.filter p).map f
 | [] => rfl
 | a :: l => by
  rw [List.map_cons, List.zip_cons_cons, List.filter_cons, List.filter_cons]
  by_cases h : p a = true
  ·rw [if_pos h, if_pos h, List.map_cons, List.map_cons, zip_filter (β := β) f p l]
  ·rw [if_neg h, if_neg h, zip_filter (β := β) f p l]
theorem cnt_ok : ∀ n, allRuns.map (fun a => (pathsFrom n a).length) = cntL n
 | 0 => by decide +kernel
 | n + 1 => by
  show _ = allRuns.map fun a => (((allRuns.zip (cntL n)).filter fun x => near (alk a) (alk x.1)).map (·.2)).sum
  refine List.map_congr_left fun a _ => ?_
  rw [<- cnt_ok n, zip_filter (β := Nat) (fun a => (pathsFrom n a).length) (fun b => near (alk a) (alk b))]
  show ((nexts a).flatMap fun b => (pathsFrom n b).map (a :: ·)).length = _
  rw [List.length_flatMap]
  simp only [List.length_map]
  rfl
def stepL (v : List Nat) : List Nat := allRuns.map fun a => (((allRuns.zip v).filter fun x => near (alk a) (alk x.1)).map (·.2)).sum
def lit0 : List Nat := [1, 1, 1, 1, 1, 1, 1, 1, 1, 1, 1, 1, 1, 1, 1, 1, 1, 1, 1, 1, 1, 1, 1, 1, 1, 1, 1]
def lit1 : List Nat := [5, 5, 6, 7, 7, 7, 7, 7, 7, 11, 5, 4, 0, 0, 0, 0, 0, 0, 4, 4, 0, 0, 0, 0, 0, 0, 0]
def lit2 : List Nat := [24, 30, 34, 40, 40, 40, 40, 40, 40, 66, 30, 26, 0, 0, 0, 0, 0, 0, 20, 26, 0, 0, 0, 0, 0, 0, 0]
def lit3 : List Nat := [146, 170, 196, 230, 230, 230, 230, 230, 230, 386, 170, 150, 0, 0, 0, 0, 0, 0, 120, 150, 0, 0, 0, 0, 0, 0, 0]
def lit4 : List Nat := [836, 998, 1142, 1338, 1338, 1338, 1338, 1338, 1338, 2216, 998, 872, 0, 0, 0, 0, 0, 0, 686, 878, 0, 0, 0, 0, 0, 0, 0]
def lit5 : List Nat := [4888, 5752, 6612, 7754, 7754, 7754, 7754, 7754, 7754, 12916, 5752, 5048, 0, 0, 0, 0, 0, 0, 4010, 5066, 0, 0, 0, 0, 0, 0, 0]
def lit6 : List Nat := [28230, 33474, 38384, 44996, 44996, 44996, 44996, 44996, 44996, 74754, 33474, 29308, 0, 0, 0, 0, 0, 0, 23164, 29464, 0, 0, 0, 0, 0, 0, 0]
def lit7 : List Nat := [164104, 193840, 222560, 260944, 260944, 260944, 260944, 260944, 260944, 434080, 193840, 169932, 0, 0, 0, 0, 0, 0, 134640, 170676, 0, 0, 0, 0, 0, 0, 0]
theorem cl0 : cntL 0 = lit0 := by decide +kernel
theorem cl1 : cntL 1 = lit1 := by
 show stepL (cntL 0) = lit1
 rw [cl0]
 decide +kernel
theorem cl2 : cntL 2 = lit2 := by
 show stepL (cntL 1) = lit2
 rw [cl1]
 decide +kernel
theorem cl3 : cntL 3 = lit3 := by
 show stepL (cntL 2) = lit3
 rw [cl2]
 decide +kernel
theorem cl4 : cntL 4 = lit4 := by
 show stepL (cntL 3) = lit4
 rw [cl3]
 decide +kernel
theorem cl5 : cntL 5 = lit5 := by
 show stepL (cntL 4) = lit5
 rw [cl4]
 decide +kernel
theorem cl6 : cntL 6 = lit6 := by
 show stepL (cntL 5) = lit6
 rw [cl5]
 decide +kernel
theorem cl7 : cntL 7 = lit7 := by
 show stepL (cntL 6) = lit7
 rw [cl6]
 decide +kernel
def paths (n : Nat) : List (List (Nat × Nat)) := allRuns.flatMap (pathsFrom n)
theorem paths_length (n : Nat) : (paths n).length = (cntL n).sum := by
 unfold paths
 rw [List.length_flatMap, <- cnt_ok n]
theorem Path.mem_paths {q : List (Nat × Nat)} {n : Nat} (h : Path q) (hl : q.length = n + 1) : q ∈ paths n := by
 cases q with
 | nil => simp at hl
 | cons a q =>
  refine List.mem_flatMap.mpr ⟨a, h.first, ?_⟩
  have : q.length = n := by simpa using hl
  rw [<- this]
  exact h.mem
def oldKeys : List Beg := (paths 7).map (fun q => (q, false)) ++ (List.range 8).flatMap fun k => (paths k).map fun q => (q, true)
theorem sm0 : (cntL 0).sum = 27 := by
 rw [cl0]
 decide +kernel
theorem sm1 : (cntL 1).sum = 86 := by
 rw [cl1]
 decide +kernel
theorem sm2 : (cntL 2).sum = 496 := by
 rw [cl2]
 decide +kernel
theorem sm3 : (cntL 3).sum = 2868 := by
 rw [cl3]
 decide +kernel
theorem sm4 : (cntL 4).sum = 16654 := by
 rw [cl4]
 decide +kernel
theorem sm5 : (cntL 5).sum = 96568 := by
 rw [cl5]
 decide +kernel
theorem sm6 : (cntL 6).sum = 560228 := by
 rw [cl6]
 decide +kernel
theorem sm7 : (cntL 7).sum = 3249336 := by
 rw [cl7]
 decide +kernel
theorem flat_len (g : Nat -> List (List (Nat × Nat))) (c : Nat -> Nat) (h : ∀ k, (g k).length = c k) : ((g 7).map (fun q => ((q, false) : Beg)) ++ (List.range 8).flatMap fun k => (g k).map fun q => ((q, true) : Beg)).length = c 7 + (c 0 + (c 1 + (c 2 + (c 3 + (c 4 + (c 5 + (c 6 + (c 7 + 0)))))))) := by
 have e : List.range 8 = [0, 1, 2, 3, 4, 5, 6, 7] := by decide
 rw [e]
 simp only [List.length_append, List.length_map, List.length_flatMap, List.map_cons, List.map_nil, List.sum_cons, List.sum_nil, h]
def tot (k : Nat) : Nat := (cntL k).sum
theorem tot_le : tot 7 + (tot 0 + (tot 1 + (tot 2 + (tot 3 + (tot 4 + (tot 5 + (tot 6 + (tot 7 + 0)))))))) <= 7200000 := by
 unfold tot
 rw [sm0, sm1, sm2, sm3, sm4, sm5, sm6, sm7]
 decide
theorem old_count : oldKeys.length <= 7200000 := by
 unfold oldKeys
 rw [flat_len paths tot paths_length]
 exact tot_le
structure OldK (k : Beg) : Prop where
 path : Path k.1
 ne : k.1 ≠ []
 le : k.1.length <= 8
 full : k.2 = true \/ k.1.length = 8
theorem OldK.mem {k : Beg} (h : OldK k) : k ∈ oldKeys := by
 obtain ⟨q, w⟩ := k
 have hp : 0 < q.length := List.length_pos_iff.mpr h.ne
 have h8 : q.length <= 8 := h.le
 cases w with
 | false =>
  have e : q.length = 8 := h.full.resolve_left fun z => by cases z
  exact List.mem_append_left _ (List.mem_map.mpr ⟨q, h.path.mem_paths (n := 7) e, rfl⟩)
 | true =>
  refine List.mem_append_right _ (List.mem_flatMap.mpr ⟨q.length - 1, by simp; omega, List.mem_map.mpr ⟨q, h.path.mem_paths (show q.length = q.length - 1 + 1 by omega), rfl⟩⟩)
theorem keys_few {l Y : List Beg} (nd : l.Nodup) (h : ∀ k ∈ l, k ∈ Y \/ OldK k) : l.length <= Y.length + 7200000 := by
 have := nodup_le (m := Y ++ oldKeys) nd fun k hk => List.mem_append.mpr ((h k hk).imp id OldK.mem)
 rw [List.length_append] at this
 have := old_count
 omega
def OldR (l : Row) : Prop := Path (runs l)
theorem OldR.of {v : Row} (h : Plain v) (n : Nat) : OldR (later (5 + n) v) := by
 have hp := h.later (5 + n)
 refine Path.of _ (fun x hx => ?_) ?_
 ·have c := ((calm_two h).later (3 + n)).three x (by rw [<- later_add, show 2 + (3 + n) = 5 + n from by omega]; exact hx)
  have g := runs_ge x hx
  have d := hp.1 _ g.2
  unfold allRuns
  obtain ⟨a, b⟩ := x
  have c : a <= 3 := c
  have g1 : 1 <= a := g.1
  have d : 1 <= b /\ b <= 9 := d
  refine List.mem_flatMap.mpr ⟨a, by simp; omega, List.mem_map.mpr ⟨b, by simp; omega, rfl⟩⟩
 ·have := ((calm_two h).later n).near
  rw [<- later_add, <- later_add, show 2 + (n + 3) = 5 + n from by omega] at this
  exact this
def begAt (l : Row) (m : Nat) : Beg := begB (((runs l).drop m).take 9) true
theorem OldR.key {l : Row} (h : OldR l) {m : Nat} (hm : m < (runs l).length) : OldK (begAt l m) := by
 have hp : Path (((runs l).drop m).take 9) := (h.drop m).take 9
 have hl : 0 < (((runs l).drop m).take 9).length := by rw [List.length_take, List.length_drop]; omega
 unfold begAt begB
 by_cases h8 : 8 < (((runs l).drop m).take 9).length
 ·rw [if_pos h8]
  refine ⟨hp.take 8, fun z => ?_, by rw [List.length_take]; omega, .inr (by rw [List.length_take]; omega)⟩
  have := congrArg List.length z
  rw [List.length_take] at this
  simp only [List.length_nil] at this
  omega
 ·rw [if_neg h8]
  exact ⟨hp, fun z => by have z : ((runs l).drop m).take 9 = [] := z; rw [z] at hl; simp at hl, by show (((runs l).drop m).take 9).length <= 8; omega, .inl rfl⟩
end RA
end
section
namespace RA
open Rc75
def unr (q : List (Nat × Nat)) : Row := q.flatMap fun x => List.replicate x.1 x.2
theorem unr_cons (c d : Nat) (q : List (Nat × Nat)) : unr ((c, d) :: q) = List.replicate c d ++ unr q := rfl
theorem unr_append (p q : List (Nat × Nat)) : unr (p ++ q) = unr p ++ unr q := by simp [unr]
theorem unr_runs : ∀ l : Row, unr (runs l) = l
 | [] => rfl
 | [a] => rfl
 | a :: b :: r => by
  have ih := unr_runs (b :: r)
  obtain ⟨k, q, e⟩ := runs_cons b r
  rw [e, unr_cons] at ih
  by_cases h : a = b
  ·subst h
   rw [runs_more e, unr_cons, List.replicate_succ, List.cons_append, ih]
  ·rw [runs_new (by simp; exact fun z => h z.symm), e, unr_cons, unr_cons, ih]
   rfl
theorem runs_unr : ∀ q : List (Nat × Nat), Adj q -> (∀ x ∈ q, 1 <= x.1) -> runs (unr q) = q
 | [], _, _ => rfl
 | [(c, d)], _, h => by
  have hc : 1 <= c := h (c, d) (by simp)
  obtain ⟨k, rfl⟩ : ∃ k, c = k + 1 := ⟨c - 1, by omega⟩
  rw [unr_cons]
  show runs (List.replicate (k + 1) d ++ []) = _
  rw [List.append_nil, runs_rep]
 | (c, d) :: (e, f) :: q, ha, h => by
  have hc : 1 <= c := h (c, d) (by simp)
  have he : 1 <= e := h (e, f) (by simp)
  obtain ⟨k, rfl⟩ : ∃ k, c = k + 1 := ⟨c - 1, by omega⟩
  obtain ⟨j, rfl⟩ : ∃ j, e = j + 1 := ⟨e - 1, by omega⟩
  have ih := runs_unr ((j + 1, f) :: q) ha.2 fun x hx => h x (by simp at hx ⊢; exact .inr hx)
  have e1 : unr ((j + 1, f) :: q) = f :: (List.replicate j f ++ unr q) := by rw [unr_cons, List.replicate_succ]; rfl
  rw [unr_cons, e1, runs_reps d k f _ ha.1, <- e1, ih]
def offs (l : Row) (i : Nat) : Nat := (((runs l).take i).map (·.1)).sum
theorem unr_length : ∀ q : List (Nat × Nat), (unr q).length = (q.map (·.1)).sum
 | [] => rfl
 | (c, d) :: q => by
  rw [unr_cons, List.length_append, List.length_replicate, unr_length q]
  rfl
theorem take_offs (l : Row) (i : Nat) : l.take (offs l i) = unr ((runs l).take i) := by
 have e : l = unr ((runs l).take i) ++ unr ((runs l).drop i) := by rw [<- unr_append, List.take_append_drop, unr_runs]
 have e2 : offs l i = (unr ((runs l).take i)).length := by rw [unr_length]; rfl
 rw [e2]
 exact (congrArg (List.take _) e).trans (List.take_left)
theorem drop_offs (l : Row) (i : Nat) : l.drop (offs l i) = unr ((runs l).drop i) := by
 have e : l = unr ((runs l).take i) ++ unr ((runs l).drop i) := by rw [<- unr_append, List.take_append_drop, unr_runs]
 have e2 : offs l i = (unr ((runs l).take i)).length := by rw [unr_length]; rfl
 rw [e2]
 exact (congrArg (List.drop _) e).trans (List.drop_left)
theorem offs_zero (l : Row) : offs l 0 = 0 := rfl
theorem offs_succ {l : Row} {i : Nat} {x : Nat × Nat} (h : (runs l)[i]? = some x) : offs l (i + 1) = offs l i + x.1 := by
 obtain ⟨hl, e⟩ := List.getElem?_eq_some_iff.mp h
 unfold offs
 rw [List.take_succ_eq_append_getElem hl, e, List.map_append, List.sum_append]
 rfl
theorem offs_all (l : Row) : offs l (runs l).length = l.length := by
 unfold offs
 rw [List.take_length, <- unr_length, unr_runs]
theorem adj_drop : ∀ {q : List (Nat × Nat)} (n : Nat), Adj q -> Adj (q.drop n)
 | q, 0, h => h
 | [], n + 1, h => h
 | [_], n + 1, h => by
  simp only [List.drop_succ_cons, List.drop_nil]
  exact trivial
 | (_, _) :: (_, _) :: q, n + 1, h => adj_drop n h.2
theorem runs_drop (l : Row) (i : Nat) : runs (l.drop (offs l i)) = (runs l).drop i := by
 rw [drop_offs]
 exact runs_unr _ (adj_drop i (runs_adj l)) fun x hx => (runs_ge x (List.mem_of_mem_drop hx)).1
theorem offs_pos {l : Row} {i : Nat} (h1 : 0 < i) (h2 : i <= (runs l).length) : 0 < offs l i := by
 obtain ⟨j, rfl⟩ : ∃ j, i = j + 1 := ⟨i - 1, by omega⟩
 have hj : j < (runs l).length := by omega
 have e := List.getElem?_eq_getElem hj
 rw [offs_succ e]
 have := (runs_ge _ (List.mem_of_getElem? e)).1
 omega
theorem offs_lt {l : Row} {i : Nat} (h : i < (runs l).length) : offs l i < l.length := by
 have := runs_drop l i
 have h2 : l.drop (offs l i) ≠ [] := fun z => by
  rw [z] at this
  have := congrArg List.length this
  rw [List.length_drop] at this
  simp [runs] at this
  omega
 have := List.length_pos_iff.mpr h2
 rw [List.length_drop] at this
 omega
theorem start_at {l : Row} (hp : Plain l) {m : Nat} (hm : m < (runs l).length) : Start (begAt l m) (l.drop (offs l m)) := by
 have e := runs_drop l m
 have hl : 0 < ((runs l).drop m).length := by rw [List.length_drop]; omega
 have hp' := hp.drop (offs l m)
 unfold begAt begB
 by_cases h8 : 8 < (((runs l).drop m).take 9).length
 ·rw [if_pos h8]
  have h9 := h8
  rw [List.length_take] at h9
  have et : (((runs l).drop m).take 9).take 8 = ((runs l).drop m).take 8 := by rw [List.take_take]; rfl
  refine ⟨⟨fun z => ?_, ?_, (fun z => by cases z), fun _ => ⟨((runs l).drop m).drop 8, ?_⟩⟩, hp', .inr ?_⟩
  ·have z : (((runs l).drop m).take 9).take 8 = [] := z
   have := congrArg List.length z
   rw [List.length_take, List.length_take] at this
   simp only [List.length_nil] at this
   omega
  ·show ((((runs l).drop m).take 9).take 8).length <= 8
   rw [List.length_take]
   omega
  ·show _ = (((runs l).drop m).take 9).take 8 ++ _
   rw [e, et, List.take_append_drop]
  ·show ((((runs l).drop m).take 9).take 8).length = 8
   rw [List.length_take]
   omega
 ·rw [if_neg h8]
  rw [List.length_take] at h8
  have et : ((runs l).drop m).take 9 = (runs l).drop m := List.take_of_length_le (by omega)
  rw [et]
  refine ⟨⟨fun z => ?_, ?_, fun _ => e, (fun z => by cases z)⟩, hp', .inl rfl⟩
  ·have z : (runs l).drop m = [] := z
   rw [z] at hl
   simp at hl
  ·show ((runs l).drop m).length <= 8
   omega
theorem unr_last : ∀ (q : List (Nat × Nat)) (c d : Nat), 1 <= c -> (unr (q ++ [(c, d)])).getLast? = some d := by
 intro q c d hc
 obtain ⟨k, rfl⟩ : ∃ k, c = k + 1 := ⟨c - 1, by omega⟩
 rw [unr_append]
 show (unr q ++ (List.replicate (k + 1) d ++ [])).getLast? = some d
 rw [List.append_nil, List.replicate_succ', <- List.append_assoc, List.getLast?_concat]
theorem last_at {l : Row} {i : Nat} {x : Nat × Nat} (h : (runs l)[i]? = some x) : (l.take (offs l (i + 1))).getLast? = some x.2 := by
 obtain ⟨hl, e⟩ := List.getElem?_eq_some_iff.mp h
 rw [take_offs, List.take_succ_eq_append_getElem hl, e]
 exact unr_last _ _ _ (runs_ge x (List.mem_of_getElem? h)).1
def cutP (l : Row) (k : Nat) : Bool := decide (0 < k) && apartBy (l.take k) (l.drop k)
theorem cutsOf_eq (l : Row) : cutsOf l = (List.range l.length).filter (cutP l) := rfl
theorem cut_in {l : Row} {i k : Nat} {x : Nat × Nat} (h : (runs l)[i]? = some x) (h1 : offs l i < k) (h2 : k < offs l i + x.1) : cutP l k = false := by
 obtain ⟨hl, e⟩ := List.getElem?_eq_some_iff.mp h
 have el : l = unr ((runs l).take i) ++ (List.replicate x.1 x.2 ++ unr ((runs l).drop (i + 1))) := by
  have e3 : (runs l).drop i = x :: (runs l).drop (i + 1) := by rw [List.drop_eq_getElem_cons hl, e]
  have e4 : l = unr ((runs l).take i) ++ unr ((runs l).drop i) := by rw [<- unr_append, List.take_append_drop, unr_runs]
  rw [e3] at e4
  exact e4
 have eo : offs l i = (unr ((runs l).take i)).length := by rw [unr_length]; rfl
 obtain ⟨j, rfl⟩ : ∃ j, k = offs l i + (j + 1) := ⟨k - offs l i - 1, by omega⟩
 have hj : j + 1 < x.1 := by omega
 have er : List.replicate x.1 x.2 = List.replicate (j + 1) x.2 ++ List.replicate (x.1 - (j + 1)) x.2 := by rw [List.replicate_append_replicate]; congr 1; omega
 have e1 : (l.take (offs l i + (j + 1))).getLast? = some x.2 := by
  have : l.take (offs l i + (j + 1)) = unr ((runs l).take i) ++ List.replicate (j + 1) x.2 := by
   rw [eo]
   refine (congrArg (List.take _) el).trans ?_
   rw [List.take_length_add_append, er, List.append_assoc, List.take_left' (by rw [List.length_replicate])]
  rw [this, List.replicate_succ', <- List.append_assoc, List.getLast?_concat]
 have e2 : (l.drop (offs l i + (j + 1))).head? = some x.2 := by
  have : l.drop (offs l i + (j + 1)) = List.replicate (x.1 - (j + 1)) x.2 ++ unr ((runs l).drop (i + 1)) := by
   rw [eo]
   refine (congrArg (List.drop _) el).trans ?_
   rw [List.drop_length_add_append, er, List.append_assoc, List.drop_left' (by rw [List.length_replicate])]
  rw [this]
  obtain ⟨m, hm⟩ : ∃ m, x.1 - (j + 1) = m + 1 := ⟨x.1 - (j + 1) - 1, by omega⟩
  rw [hm, List.replicate_succ]
  rfl
 unfold cutP
 rw [Bool.and_eq_false_iff]
 right
 cases ea : apartBy (l.take (offs l i + (j + 1))) (l.drop (offs l i + (j + 1))) with
 | false => rfl
 | true =>
  unfold apartBy at ea
  have := List.all_eq_true.mp ea 0 (by decide)
  have this : ((l.take (offs l i + (j + 1))).getLast? != (l.drop (offs l i + (j + 1))).head?) = true := this
  rw [e1, e2] at this
  simp at this
theorem filter_run {l : Row} {i : Nat} {x : Nat × Nat} (h : (runs l)[i]? = some x) : (List.range (offs l (i + 1) + 1)).filter (cutP l) = (List.range (offs l i + 1)).filter (cutP l) ++ (if cutP l (offs l (i + 1)) = true then [offs l (i + 1)] else []) := by
 have hx := (runs_ge x (List.mem_of_getElem? h)).1
 rw [offs_succ h]
 obtain ⟨c, hc⟩ : ∃ c, x.1 = c + 1 := ⟨x.1 - 1, by omega⟩
 have grow : ∀ n, n <= c -> (List.range (offs l i + n + 1)).filter (cutP l) = (List.range (offs l i + 1)).filter (cutP l) := by
  intro n
  induction n with
  | zero => intro _; rfl
  | succ n ih =>
   intro hn
   rw [List.range_succ, List.filter_append, show offs l i + (n + 1) = offs l i + n + 1 from rfl, ih (by omega)]
   have : cutP l (offs l i + n + 1) = false := cut_in h (by omega) (by omega)
   rw [List.filter_cons, if_neg (by rw [this]; decide), List.filter_nil, List.append_nil]
 rw [hc, show offs l i + (c + 1) + 1 = (offs l i + c + 1) + 1 from rfl, List.range_succ, List.filter_append, grow c (Nat.le_refl _), List.filter_cons]
 rfl
theorem filter_last {l : Row} {i : Nat} {x : Nat × Nat} (h : (runs l)[i]? = some x) (hi : i + 1 = (runs l).length) : cutsOf l = (List.range (offs l i + 1)).filter (cutP l) := by
 have hx := (runs_ge x (List.mem_of_getElem? h)).1
 have e := offs_succ h
 rw [hi, offs_all] at e
 rw [cutsOf_eq, e]
 obtain ⟨c, hc⟩ : ∃ c, x.1 = c + 1 := ⟨x.1 - 1, by omega⟩
 have grow : ∀ n, n <= c -> (List.range (offs l i + n + 1)).filter (cutP l) = (List.range (offs l i + 1)).filter (cutP l) := by
  intro n
  induction n with
  | zero => intro _; rfl
  | succ n ih =>
   intro hn
   rw [List.range_succ, List.filter_append, show offs l i + (n + 1) = offs l i + n + 1 from rfl, ih (by omega)]
   have : cutP l (offs l i + n + 1) = false := cut_in h (by omega) (by omega)
   rw [List.filter_cons, if_neg (by rw [this]; decide), List.filter_nil, List.append_nil]
 rw [hc]
 exact grow c (Nat.le_refl _)
theorem filter_zero (l : Row) : (List.range (offs l 0 + 1)).filter (cutP l) = [] := by
 rw [offs_zero]
 show (List.range 1).filter (cutP l) = []
 have : cutP l 0 = false := rfl
 rw [show List.range 1 = [0] from rfl, List.filter_cons, if_neg (by rw [this]; decide), List.filter_nil]
theorem cut_at {l : Row} (hp : Plain l) {m : Nat} {x : Nat × Nat} (h : (runs l)[m]? = some x) (hm : m + 1 < (runs l).length) {i j : Nat} (hj : j < i) (e : itB i (begAt l (m + 1)) = itB j (begAt l (m + 1))) :
  cutP l (offs l (m + 1)) = true ↔ ∀ n, n < i -> x.2 ≠ fdB (itB n (begAt l (m + 1))) := by
 have st := start_at hp hm
 have hpos := offs_pos (l := l) (i := m + 1) (by omega) (by omega)
 have hlt := offs_lt hm
 have hu : l.take (offs l (m + 1)) ≠ [] := fun z => by
  have := congrArg List.length z
  rw [List.length_take] at this
  simp only [List.length_nil] at this
  omega
 have hv : l.drop (offs l (m + 1)) ≠ [] := fun z => by
  have := congrArg List.length z
  rw [List.length_drop] at this
  simp only [List.length_nil] at this
  omega
 unfold cutP
 rw [decide_eq_true hpos, Bool.true_and, apartBy_iff hu hv (hp.drop _), st.never hu hj e, last_at h]
 refine ⟨fun z n hn w => z n hn (by rw [w]), fun z n hn w => z n hn (by injection w)⟩
end RA
end
section
namespace RA
open Rc75
def cutEnds (l : Row) : List Nat := cutsOf l ++ [l.length]
def partsOf (l : Row) : List Row := ((0 :: cutsOf l).zip (cutEnds l)).map fun x => (l.drop x.1).take (x.2 - x.1)
theorem cuts_lt {l : Row} {c : Nat} (h : c ∈ cutsOf l) : 0 < c /\ c < l.length := by
 rw [cutsOf_eq] at h
 obtain ⟨h1, h2⟩ := List.mem_filter.mp h
 have h1 : c < l.length := by simpa using h1
 unfold cutP at h2
 rw [Bool.and_eq_true] at h2
 exact ⟨of_decide_eq_true h2.1, h1⟩
theorem cuts_few (l : Row) : (cutsOf l).length <= l.length - 1 := by
 rw [cutsOf_eq]
 cases e : l.length with
 | zero => simp
 | succ n =>
  rw [List.range_succ_eq_map, List.filter_cons, if_neg (by show ¬ (cutP l 0 = true); intro z; cases z)]
  refine Nat.le_trans (List.length_filter_le _ _) ?_
  rw [List.length_map, List.length_range]
  omega
def Spl (l : Row) (ps : List Row) : Prop := ∀ n, runs (later n l) = ps.flatMap fun p => runs (later n p)
theorem Spl.rows {l : Row} {ps : List Row} (h : Spl l ps) (n : Nat) : later n l = ps.flatMap fun p => later n p := by
 have e := congrArg unr (h n)
 rw [unr_runs] at e
 rw [e]
 clear e h
 induction ps with
 | nil => rfl
 | cons p ps ih => rw [List.flatMap_cons, List.flatMap_cons, unr_append, unr_runs, ih]
theorem Spl.one (l : Row) : Spl l [l] := fun n => by rw [List.flatMap_cons, List.flatMap_nil, List.append_nil]
theorem Spl.app {u v : Row} {ps : List Row} (hn : Never u v) (hu : u ≠ []) (h : Spl v ps) : Spl (u ++ v) (u :: ps) := fun n => by
 have ha : Apart (later n u) (later n v) := (apart_iff (later_ne hu n)).mpr (by rw [later_last]; exact (never_iff hu).mp hn n)
 rw [hn n, runs_append ha, List.flatMap_cons, h n]
theorem zip_map (f : Nat × Nat -> Row) (n : Nat) : ∀ (cs : List Nat) (a : Nat), ((a :: cs).zip (cs ++ [n])).map f = (match cs with | [] => [f (a, n)] | c :: cs' => f (a, c) :: ((c :: cs').zip (cs' ++ [n])).map f)
 | [], a => rfl
 | c :: cs, a => rfl
theorem never_from {l : Row} {a c : Nat} (hac : a < c) (hc : c < l.length) (hp : Plain l) (h : cutP l c = true) : Never ((l.drop a).take (c - a)) (l.drop c) /\ (l.drop a).take (c - a) ≠ [] := by
 unfold cutP at h
 rw [Bool.and_eq_true] at h
 have hu : l.take c ≠ [] := fun z => by
  have := congrArg List.length z
  rw [List.length_take] at this
  simp only [List.length_nil] at this
  omega
 have hv : l.drop c ≠ [] := fun z => by
  have := congrArg List.length z
  rw [List.length_drop] at this
  simp only [List.length_nil] at this
  omega
 have hn := (never_iff hu).mp ((apartBy_iff hu hv (hp.drop c)).mp h.2)
 have hne : (l.drop a).take (c - a) ≠ [] := fun z => by
  have := congrArg List.length z
  rw [List.length_take, List.length_drop] at this
  simp only [List.length_nil] at this
  omega
 refine ⟨(never_iff hne).mpr fun n => ?_, hne⟩
 have e : ((l.drop a).take (c - a)).getLast? = (l.take c).getLast? := by
  rw [List.getLast?_take, List.getLast?_take, if_neg (by omega), if_neg (by omega), List.getElem?_drop, show a + (c - a - 1) = c - 1 from by omega]
  have h1 : c - 1 < l.length := by omega
  rw [List.getElem?_eq_getElem h1]
  rfl
 rw [e]
 exact hn n
theorem spl_from {l : Row} (hp : Plain l) : ∀ (cs : List Nat) (a : Nat), (a :: cs).Pairwise (· < ·) -> (∀ c ∈ cs, c < l.length /\ cutP l c = true) -> a <= l.length -> Spl (l.drop a) (((a :: cs).zip (cs ++ [l.length])).map fun x => (l.drop x.1).take (x.2 - x.1))
 | [], a, _, _, ha => by
  rw [zip_map]
  show Spl (l.drop a) [(l.drop a).take (l.length - a)]
  rw [List.take_of_length_le (by rw [List.length_drop]; exact Nat.le_refl _)]
  exact Spl.one _
 | c :: cs, a, hs, hc, ha => by
  rw [zip_map]
  show Spl (l.drop a) ((l.drop a).take (c - a) :: ((c :: cs).zip (cs ++ [l.length])).map fun x => (l.drop x.1).take (x.2 - x.1))
  rw [List.pairwise_cons] at hs
  have hac : a < c := hs.1 c (by simp)
  obtain ⟨hcl, hcc⟩ := hc c (by simp)
  have ih := spl_from hp cs c hs.2 (fun x hx => hc x (by simp [hx])) (by omega)
  obtain ⟨h1, h2⟩ := never_from hac hcl hp hcc
  have e : l.drop a = (l.drop a).take (c - a) ++ l.drop c := by
   have := List.take_append_drop (c - a) (l.drop a)
   rw [List.drop_drop, show a + (c - a) = c from by omega] at this
   exact this.symm
  have := Spl.app h1 h2 ih
  rwa [<- e] at this
theorem spl_parts {l : Row} (hp : Plain l) : Spl l (partsOf l) := by
 have hs : (0 :: cutsOf l).Pairwise (· < ·) := by
  rw [List.pairwise_cons]
  refine ⟨fun c hc => (cuts_lt hc).1, ?_⟩
  rw [cutsOf_eq]
  exact List.Pairwise.filter _ List.pairwise_lt_range
 have := spl_from hp (cutsOf l) 0 hs (fun c hc => ?_) (Nat.zero_le _)
 ·rwa [List.drop_zero] at this
 ·refine ⟨(cuts_lt hc).2, ?_⟩
  rw [cutsOf_eq] at hc
  exact (List.mem_filter.mp hc).2
theorem Spl.next {l : Row} {ps : List Row} (h : Spl l ps) (hp : ∀ p ∈ ps, Plain p) : Spl (aloud l) (ps.flatMap fun p => partsOf (aloud p)) := fun n => by
 have e := h (n + 1)
 have e2 : runs (later n (aloud l)) = ps.flatMap fun p => runs (later n (aloud p)) := e
 rw [e2, List.flatMap_assoc]
 clear e e2 h
 induction ps with
 | nil => rfl
 | cons p ps ih => rw [List.flatMap_cons, List.flatMap_cons, ih fun x hx => hp x (by simp [hx]), spl_parts (hp p (by simp)).aloud n]
theorem Spl.plain {l : Row} {ps : List Row} (h : Spl l ps) (hp : Plain l) : ∀ p ∈ ps, Plain p := by
 intro p hm
 have e := h 0
 have e1 := h.rows 0
 refine ⟨fun x hx => hp.1 x ?_, fun x hx => hp.2 x ?_⟩
 ·have e1 : l = ps.flatMap fun p => p := e1
  rw [e1]
  exact List.mem_flatMap.mpr ⟨p, hm, hx⟩
 ·have e : runs l = ps.flatMap fun p => runs p := e
  rw [e]
  exact List.mem_flatMap.mpr ⟨p, hm, hx⟩
theorem Path.infix : ∀ (a b c : List (Nat × Nat)), Path (a ++ (b ++ c)) -> Path b := by
 intro a b c h
 have h1 := h.drop a.length
 rw [List.drop_left] at h1
 have h2 := h1.take b.length
 rw [List.take_left] at h2
 exact h2
theorem Spl.old {l : Row} {ps : List Row} (h : Spl l ps) {n : Nat} (ho : OldR (later n l)) : ∀ p ∈ ps, OldR (later n p) := by
 intro p hm
 obtain ⟨a, b, e⟩ := List.append_of_mem hm
 have e1 := h n
 rw [e, List.flatMap_append, List.flatMap_cons] at e1
 unfold OldR at ho ⊢
 rw [e1] at ho
 exact Path.infix _ _ _ ho
def dayParts : Nat -> List Row -> List Row
 | 0, ps => ps
 | n + 1, ps => dayParts n (ps.flatMap fun p => partsOf (aloud p))
theorem dayParts_succ : ∀ (n : Nat) (ps : List Row), dayParts (n + 1) ps = (dayParts n ps).flatMap fun p => partsOf (aloud p)
 | 0, _ => rfl
 | n + 1, ps => dayParts_succ n (ps.flatMap fun p => partsOf (aloud p))
theorem Spl.day {l : Row} {ps : List Row} (h : Spl l ps) (hp : Plain l) : ∀ n, Spl (later n l) (dayParts n ps)
 | 0 => h
 | n + 1 => by
  rw [later_succ, dayParts_succ]
  exact (h.day hp n).next ((h.day hp n).plain (hp.later n))
structure Adds2 (m : Row -> Nat) : Prop where
 nil : m [] = 0
 app : ∀ u v, m (u ++ v) = m u + m v
theorem Adds2.flat {m : Row -> Nat} (h : Adds2 m) : ∀ (ps : List Row) (f : Row -> Row), m (ps.flatMap f) = (ps.map fun p => m (f p)).sum
 | [], _ => h.nil
 | p :: ps, f => by rw [List.flatMap_cons, h.app, h.flat ps f]; rfl
theorem Adds2.later {m : Row -> Nat} (h : Adds2 m) {p : Row} (hp : Plain p) (n : Nat) : m (Rc75.later (n + 1) p) = ((partsOf (aloud p)).map fun c => m (Rc75.later n c)).sum := by
 rw [<- h.flat, <- (spl_parts hp.aloud).rows n]
 rfl
theorem Adds2.now {m : Row -> Nat} (h : Adds2 m) {l : Row} (hp : Plain l) (n : Nat) : m (Rc75.later n l) = ((partsOf l).map fun c => m (Rc75.later n c)).sum := by
 rw [<- h.flat, <- (spl_parts hp).rows n]
theorem adds_len : Adds2 List.length := ⟨rfl, fun u v => List.length_append⟩
theorem adds_count (a : Nat) : Adds2 (List.count a) := ⟨rfl, fun u v => List.count_append⟩
end RA
end
section
namespace L2
open PySem PySem.Spec PyProof.Rows
theorem fits_long {i : Int} (h1 : -(2 ^ 62) <= i) (h2 : i < 2 ^ 62) : Builtin.Range.rangeFitsLong i = true := by
 unfold Builtin.Range.rangeFitsLong
 simp only [Bool.and_eq_true, decide_eq_true_eq]
 omega
theorem rangeSize_two (n : Nat) : Builtin.Range.rangeSize 0 (n : Int) 2 = (((n + 1) / 2 : Nat) : Int) := by
 unfold Builtin.Range.rangeSize
 rw [if_pos (by decide)]
 split <;> omega
theorem RgC.two {n : Nat} (h : n < 1000000000) : RgC 0 (n : Int) 2 ((n + 1) / 2) := by
 refine ⟨by decide, by decide, ?_, rangeSize_two n⟩
 unfold Builtin.Range.small
 rw [rangeSize_two, fits_long (i := 0) (by omega) (by omega), fits_long (i := (n : Int)) (by omega) (by omega), fits_long (i := 2) (by omega) (by omega), fits_long (i := (((n + 1) / 2 : Nat) : Int)) (by omega) (by omega),
  if_pos (show (2 : Int) > 0 by decide), fits_long (i := (n : Int) + (2 - 1)) (by omega) (by omega), Bool.or_true]
 rfl
theorem readsAll_ints {cl : Str -> Option Addr} {h : Heap} : ∀ (ys : List Int) (us : List Value), Vals (ys.map V.int) us -> PySem.W.ReadsAllW [] cl h us (ys.map PySem.W.WData.int) []
 | [], us, r => by
  cases r
  exact .nil
 | y :: ys, us, r => by
  rw [List.map_cons] at r
  cases r with
  | cons a b =>
   obtain ⟨t, rfl⟩ := a
   exact .cons (as := []) (bs := []) (.int y t) (readsAll_ints ys _ b)
theorem laid_of {P : Params} {h : Heap} {vals : List Value} {ns : List Int} (hwl : PySem.W.WellAll P h vals [PySem.W.WData.list (ns.map PySem.W.WData.int)]) :
  ∃ a vs, vals = [Value.ref a] /\ h.get? a = some { cls := .type "list", data := .seq vs.toArray } /\ IntsAre vs ns := by
 cases hwl with
 | cons w1 w2 =>
  cases w2
  cases w1 with
  | list ho hall => exact ⟨_, _, rfl, ho, Att.ints_of_wellAll ns _ hall⟩
end L2
end
section
namespace RN
open PySem
section
variable (P : Program) (w : World)
def HashTo (A : Around) (h : Heap) (v : Value) (x : Int × Nat) : Prop :=
 ∀ (E : Value -> Shared -> Prop) (s : Shared) (Q : Int -> Shared -> Prop), s.heap = h -> Q x.1 { s with toks := s.toks + x.2 } -> wpAny (model P w) A (pyHash v) Q E s
def EqTo (A : Around) (h : Heap) (u v : Value) (b : Bool) : Prop :=
 ∀ (E : Value -> Shared -> Prop) (s : Shared) (Q : Bool -> Shared -> Prop), s.heap = h -> Q b s -> wpAny (model P w) A (eqBool u v) Q E s
def QuietTo (A : Around) (h : Heap) (n : Nat) (v : Value) : Prop :=
 ∀ (E : Value -> Shared -> Prop) (s : Shared) (Q : Bool -> Shared -> Prop), s.heap = h -> Q true s -> wpAny (model P w) A (eqIsQuiet n v) Q E s
end
inductive All2 {α β : Type} (R : α -> β -> Prop) : List α -> List β -> Prop
 | nil : All2 R [] []
 | cons {a : α} {b : β} {l : List α} {m : List β} : R a b -> All2 R l m -> All2 R (a :: l) (b :: m)
def TupAt (h : Heap) (a : Addr) (its : List Value) : Prop := ∃ o n, h.get? a = some o /\ o.cls = .type "tuple" /\ o.data = .seq its.toArray n
section
variable {P : Program} {w : World} {A : Around} {E : Value -> Shared -> Prop} {s : Shared} {a b : Addr} {its jts : List Value}
theorem TupAt.ty (x : TupAt s.heap a its) : s.TypeIs (.ref a) "tuple" := let ⟨o, _, h1, h2, _⟩ := x; ⟨o, h1, h2⟩
def hashOf (hs : List (Int × Nat)) : Int := reduceHash (Builtin.Tuple.tupleHashOf (hs.map (·.1)))
def drawn (hs : List (Int × Nat)) : Nat := (hs.map (·.2)).sum + 1
theorem tup_hash {hs : List (Int × Nat)} {Q : Int -> Shared -> Prop} (hu : A.units < cLine) (ht : TupAt s.heap a its) (hh : All2 (HashTo P w A.in1 s.heap) its hs)
  (hq : Q (hashOf hs) { s with toks := s.toks + drawn hs }) : wpAny (model P w) A (pyHash (.ref a)) Q E s := by
 have ty := ht.ty
 obtain ⟨o, n, ho, _, hd⟩ := ht
 unfold pyHash
 try unfold pyHashByItsType
 try (refine wpAny_bind (wpAny_cRoomFor_or (Or.inr hu) ?_))
 refine wpAny_bind (wpAny_specialOf ty F.slot_tuple_hash.lookup ?_)
 show wpAny _ A (if (some (Value.builtin "tuple.__hash__") == some Value.none) = true then _ else _) Q E s
 rw [if_neg (by rw [beq_builtin_none]; decide)]
 refine wpAny_bind (wpAny_specialOf ty F.slot_tuple_hash.lookup ?_)
 show wpAny _ A (callSpecialIfBoundUnlessNone? (.ref a) "__hash__" _ >>= _) Q E s
 refine wpAny_bind (wpAny_callSpecialIfBoundUnlessNone?_slot ty F.slot_tuple_hash (wpAny_call_entry F.slot_tuple_hash ty F.entry_tuple_hash ?_ (F.args_tuple_hash_1 _)))
 show wpAny _ A.in1 (Builtin.Tuple.tupleItemsOf (.ref a) >>= _) _ _ s
 refine wpAny_bind (wpAny_tupleItemsOf ho hd ?_)
 refine wpAny_bind ?_
 rw [<- Array.forIn_toList]
 refine wpAny_forIn_list _
  (fun rest (got : Array Int) s' => ∃ (done left : List (Int × Nat)), hs = done ++ left /\ All2 (HashTo P w A.in1 s.heap) rest left /\ got.toList = done.map (·.1) /\ s' = { s with toks := s.toks + (done.map (·.2)).sum })
  _ ?_ ?_ _ _ ⟨[], hs, rfl, by simpa using hh, rfl, by simp⟩
 ·rintro x rest got s' ⟨done, left, rfl, hl, hg, rfl⟩
  cases hl with
  | @cons _ y _ left' h1 hl' =>
   refine wpAny_bind (h1 _ _ _ rfl ?_)
   have fin : ∃ (d l : List (Int × Nat)), done ++ y :: left' = d ++ l /\ All2 (HashTo P w A.in1 s.heap) rest l /\ (got.push y.1).toList = d.map (·.1) /\ ({ s with toks := s.toks + (done.map (·.2)).sum + y.2 } : Shared) = { s with toks := s.toks + (d.map (·.2)).sum } :=
    ⟨done ++ [y], left', by simp, hl', by simp [hg], by simp [Nat.add_assoc]⟩
   first
    | exact wpAny_pure fin
    | exact wpAny_bind (wpAny_pure (wpAny_pure fin))
 ·rintro got s' ⟨done, left, rfl, hl, hg, rfl⟩
  cases hl
  rw [List.append_nil] at hq
  show wpAny _ A.in1 (retInt (Builtin.Tuple.tupleHashOf got.toList)) _ _ _
  rw [hg]
  refine wpAny_ret_mkInt ?_
  show wpAny _ A (if (decide (-(2 : Int) ^ 63 <= Builtin.Tuple.tupleHashOf (done.map (·.1))) && decide (Builtin.Tuple.tupleHashOf (done.map (·.1)) < 2 ^ 63)) = true then _ else _) Q E _
  unfold hashOf reduceHash drawn at hq
  by_cases hr : (decide (-(2 : Int) ^ 63 <= Builtin.Tuple.tupleHashOf (done.map (·.1))) && decide (Builtin.Tuple.tupleHashOf (done.map (·.1)) < 2 ^ 63)) = true
  ·rw [if_pos hr] at hq ⊢
   exact wpAny_pure (by simpa [Nat.add_assoc] using hq)
  ·rw [if_neg hr] at hq ⊢
   exact wpAny_bind (wpAny_rule (wpAny_pure (by simpa [Nat.add_assoc] using hq)))
inductive EqAll (P : Program) (w : World) (A : Around) (h : Heap) : List Value -> List Value -> Bool -> Prop
 | nil : EqAll P w A h [] [] true
 | left {v : Value} {l : List Value} : EqAll P w A h (v :: l) [] false
 | right {v : Value} {l : List Value} : EqAll P w A h [] (v :: l) false
 | cons {u v : Value} {l m : List Value} {b c : Bool} : EqTo P w A h u v b -> EqAll P w A h l m c -> EqAll P w A h (u :: l) (v :: m) (b && c)
theorem tup_eq_tree {r : Bool} {G : Fin -> Shared -> Prop} (hx : TupAt s.heap a its) (hy : TupAt s.heap b jts) (he : EqAll P w A s.heap its jts r) (h : G (.done (.ret (.bool r))) s) :
  wpAny (model P w) A (Builtin.«tuple.__eq__» ⟨[.ref a, .ref b], []⟩) G E s := by
 have ty := hy.ty
 obtain ⟨oa, na, hoa, _, hda⟩ := hx
 obtain ⟨ob, nb, hob, _, hdb⟩ := hy
 show wpAny _ A (isInstance (.ref b) (.type "tuple") >>= _) _ _ s
 refine wpAny_bind (wpAny_isInstance ty isSubtype_tuple_tuple ?_)
 simp only [Bool.not_true, Bool.false_eq_true, if_false]
 refine wpAny_bind (wpAny_tupleItemsOf hoa hda ?_)
 refine wpAny_bind (wpAny_tupleItemsOf hob hdb ?_)
 refine wpAny_bind ?_
 refine wpAny_forIn_list _
  (fun rest st s' => st.1 = none /\ s' = s /\ ∃ (l m : List Value), rest = List.zip l m /\ EqAll P w A s.heap l m r /\ (l.length == m.length) = (its.toArray.size == jts.toArray.size))
  _ ?_ ?_ _ _ ⟨rfl, rfl, its, jts, by simp, he, by simp⟩
 ·rintro ⟨u, v⟩ rest st s' ⟨hr, rfl, l, m, hz, hlm, hlen⟩
  cases hlm with
  | nil => simp at hz
  | left => simp at hz
  | right => simp at hz
  | @cons u' v' l' m' c d h1 h2 =>
   simp only [List.zip_cons_cons, List.cons.injEq, Prod.mk.injEq] at hz
   obtain ⟨⟨rfl, rfl⟩, rfl⟩ := hz
   refine wpAny_bind (h1 _ _ _ rfl ?_)
   cases c with
   | true =>
    simp only [Bool.not_true, Bool.false_eq_true, if_false]
    exact wpAny_pure ⟨rfl, rfl, l', m', rfl, by simpa using h2, by simpa using hlen⟩
   | false =>
    simp only [Bool.not_false, if_true]
    have h' : G (.done (.ret (.bool false))) s' := by simpa using h
    exact wpAny_bind (wpAny_pure (wpAny_pure (wpAny_pure h')))
 ·rintro ⟨r1, r2⟩ s' ⟨hr, rfl, l, m, hz, hlm, hlen⟩
  simp only at hr
  subst hr
  refine wpAny_pure ?_
  have e : (its.toArray.size == jts.toArray.size) = r := by
   rw [<- hlen]
   cases hlm with
   | nil => rfl
   | left => rfl
   | right => rfl
   | cons _ _ => simp at hz
  show G (.done (.ret (.bool (its.toArray.size == jts.toArray.size)))) s'
  rw [e]
  exact h
theorem tup_eq {r : Bool} {Q : Bool -> Shared -> Prop} (hu : A.units < cLine) (hx : TupAt s.heap a its) (hy : TupAt s.heap b jts) (he : EqAll P w A.in1 s.heap its jts r) (hs : a = b -> r = true) (h : Q r s) :
  wpAny (model P w) A (eqBool (.ref a) (.ref b)) Q E s := by
 unfold eqBool
 try (with_reducible refine wpAny_holding ?_)
 show wpAny _ A (if (Value.ref a == Value.ref b) = true then _ else _) Q E s
 by_cases hab : (Value.ref a == Value.ref b) = true
 ·rw [if_pos hab]
  have e : a = b := by
   have := eq_of_beq hab
   injection this
  rw [hs e] at h
  exact wpAny_bind (wpAny_rule (wpAny_pure h))
 ·rw [if_neg hab]
  exact wpAny_bind (wpAny_richCompare_same_room (op := .Eq) hx.ty hy.ty F.slot_tuple_eq
   (wpAny_call_entry F.slot_tuple_eq hx.ty F.entry_tuple_eq (tup_eq_tree hx hy he ⟨_, rfl, (fun e => nomatch e), wpAny_truthy_bool h⟩) (F.args_tuple_eq_2 _ _)) hu)
theorem tup_quiet {n : Nat} {Q : Bool -> Shared -> Prop} (ht : TupAt s.heap a its) (hq : ∀ v ∈ its, QuietTo P w A s.heap n v) (h : Q true s) : wpAny (model P w) A (eqIsQuiet (n + 1) (.ref a)) Q E s := by
 have ty := ht.ty
 obtain ⟨o, m, ho, _, hd⟩ := ht
 unfold eqIsQuiet
 refine wpAny_bind (wpAny_specialOf ty F.slot_tuple_eq.lookup ?_)
 show wpAny _ A (isInstance (.ref a) (.type "tuple") >>= _) _ _ s
 refine wpAny_bind (wpAny_isInstance ty isSubtype_tuple_tuple ?_)
 simp only [Bool.not_true, Bool.false_eq_true, if_false]
 refine wpAny_bind (wpAny_seqItems ho hd ?_)
 refine wpAny_bind ?_
 show wpAny _ A (forIn its.toArray _ _) _ _ s
 rw [<- Array.forIn_toList]
 refine wpAny_forIn_list _ (fun rest st s' => st.1 = none /\ s' = s /\ ∀ v ∈ rest, QuietTo P w A s.heap n v) _ ?_ ?_ _ _ ⟨rfl, rfl, by simpa using hq⟩
 ·rintro v rest st s' ⟨hr, rfl, hall⟩
  refine wpAny_bind (hall v (by simp) _ _ _ rfl ?_)
  simp only [Bool.not_true, Bool.false_eq_true, if_false]
  exact wpAny_pure ⟨rfl, rfl, fun u hu' => hall u (by simp [hu'])⟩
 ·rintro ⟨r1, r2⟩ s' ⟨hr, rfl, _⟩
  simp only at hr
  subst hr
  exact wpAny_pure h
theorem int_hash (k : Int) (t : Tok) : HashTo P w A s.heap (.int k t) (hashInt k, 1) := fun E s' Q _ h => wpAny_pyHash_int h
theorem int_eq (k j : Int) (t u : Tok) : EqTo P w A s.heap (.int k t) (.int j u) (k == j) := fun E s' Q _ h => wpAny_eqBool_int h
theorem bool_eq (x y : Bool) : EqTo P w A s.heap (.bool x) (.bool y) (x == y) := fun E s' Q _ h => SeqAt.EqAt.bool_bool x y _ _ _ _ h
theorem bool_hash (hu : A.units < cLine) (x : Bool) : HashTo P w A s.heap (.bool x) ((if x then 1 else 0), 1) := fun E s' Q _ h => by
 refine PySem.W.pyHash_slot (T := "bool") rfl F.slot_bool_hash entry_int_hash (args_int_hash _) (beq_builtin_none _) (.inr hu) ?_
 cases x
 ·exact (show wpAny _ A.in1 (do ret (<- mkInt 0)) _ _ s' from wpAny_bind (wpAny_mkInt (wpAny_pure ⟨_, _, rfl, h⟩)))
 ·exact (show wpAny _ A.in1 (do ret (<- mkInt 1)) _ _ s' from wpAny_bind (wpAny_mkInt (wpAny_pure ⟨_, _, rfl, h⟩)))
theorem byval_quiet (n : Nat) {v : Value} (h : carriedByValue v = true) : QuietTo P w A s.heap n v := fun E s' Q _ hq => by
 rw [eqIsQuiet_byValue n h]
 exact wpAny_pure hq
end
end RN
namespace RA
open PySem L2
abbrev BKey := List (Nat × Nat) × Bool
def PairAt (h : Heap) (p : Nat × Nat) (v : Value) : Prop := ∃ b t u, v = .ref b /\ RN.TupAt h b [.int (p.1 : Int) t, .int (p.2 : Int) u]
def KeyAt (h : Heap) (k : BKey) (a : Addr) : Prop := ∃ t rs, RN.TupAt h a [.ref t, .bool k.2] /\ RN.TupAt h t rs /\ RN.All2 (fun p v => PairAt h p v) k.1 rs
theorem TupAt.inj {h : Heap} {a : Addr} {l m : List Value} (x : RN.TupAt h a l) (y : RN.TupAt h a m) : l = m := by
 obtain ⟨o, n, h1, _, h2⟩ := x
 obtain ⟨o', n', h1', _, h2'⟩ := y
 rw [h1] at h1'
 cases h1'
 rw [h2] at h2'
 injection h2' with e _
 simpa using congrArg Array.toList e
theorem TupAt.keeps {h h' : Heap} {a d : Addr} {o : Obj} {es : Array DictEntry} {ep : Nat} {l : List Value} (x : RN.TupAt h a l) (ho : h.get? d = some o) (hd : o.data = .dict es ep) (hs : Heap.SameBut d h h') : RN.TupAt h' a l := by
 obtain ⟨ob, n, h1, h2, h3⟩ := x
 have hne : a ≠ d := by
  intro e
  subst e
  rw [h1] at ho
  cases ho
  rw [hd] at h3
  cases h3
 exact ⟨ob, n, (hs.2 a hne).trans h1, h2, h3⟩
theorem PairAt.inj {h : Heap} {p q : Nat × Nat} {v : Value} (x : PairAt h p v) (y : PairAt h q v) : p = q := by
 obtain ⟨b, t, u, rfl, x⟩ := x
 obtain ⟨b', t', u', e, y⟩ := y
 cases e
 have := TupAt.inj x y
 simp at this
 exact Prod.ext (by omega) (by omega)
theorem pairs_inj {h : Heap} : ∀ {k j : List (Nat × Nat)} {rs : List Value}, RN.All2 (fun p v => PairAt h p v) k rs -> RN.All2 (fun p v => PairAt h p v) j rs -> k = j
 | _, _, _, .nil, .nil => rfl
 | _, _, _, .cons x l, .cons y m => by rw [x.inj y, pairs_inj l m]
theorem KeyAt.inj {h : Heap} {a : Addr} {k j : BKey} (x : KeyAt h k a) (y : KeyAt h j a) : k = j := by
 obtain ⟨t, rs, x1, x2, x3⟩ := x
 obtain ⟨t', rs', y1, y2, y3⟩ := y
 have e := TupAt.inj x1 y1
 simp at e
 obtain ⟨rfl, e2⟩ := e
 have e3 := TupAt.inj x2 y2
 subst e3
 exact Prod.ext (pairs_inj x3 y3) e2
theorem All2.imp {α β : Type} {R S : α -> β -> Prop} (f : ∀ a b, R a b -> S a b) : ∀ {l : List α} {m : List β}, RN.All2 R l m -> RN.All2 S l m
 | _, _, .nil => .nil
 | _, _, .cons x l => .cons (f _ _ x) (All2.imp f l)
theorem KeyAt.keeps {h h' : Heap} {a d : Addr} {o : Obj} {es : Array DictEntry} {ep : Nat} {k : BKey} (x : KeyAt h k a) (ho : h.get? d = some o) (hd : o.data = .dict es ep) (hs : Heap.SameBut d h h') : KeyAt h' k a := by
 obtain ⟨t, rs, x1, x2, x3⟩ := x
 exact ⟨t, rs, TupAt.keeps x1 ho hd hs, TupAt.keeps x2 ho hd hs, All2.imp (fun p v ⟨b, t, u, e, y⟩ => ⟨b, t, u, e, TupAt.keeps y ho hd hs⟩) x3⟩
def pairHash (p : Nat × Nat) : Int × Nat := (RN.hashOf [(hashInt (p.1 : Int), 1), (hashInt (p.2 : Int), 1)], RN.drawn [(hashInt (p.1 : Int), 1), (hashInt (p.2 : Int), 1)])
def runsHash (k : List (Nat × Nat)) : Int × Nat := (RN.hashOf (k.map pairHash), RN.drawn (k.map pairHash))
def keyHash (k : BKey) : Int × Nat := (RN.hashOf [runsHash k.1, ((if k.2 then 1 else 0), 1)], RN.drawn [runsHash k.1, ((if k.2 then 1 else 0), 1)])
section
variable {P : Program} {w : World} {A : Around} {h : Heap}
theorem pair_hash {p : Nat × Nat} {v : Value} (hu : A.units < cLine) (x : PairAt h p v) : RN.HashTo P w A h v (pairHash p) := fun E s Q e hq => by
 subst e
 obtain ⟨b, t, u, rfl, x⟩ := x
 exact RN.tup_hash hu x (.cons (RN.int_hash _ _) (.cons (RN.int_hash _ _) .nil)) hq
theorem runs_hash {k : List (Nat × Nat)} {t : Addr} {rs : List Value} (hu : A.units + 1 < cLine) (x : RN.TupAt h t rs) (y : RN.All2 (fun p v => PairAt h p v) k rs) : RN.HashTo P w A h (.ref t) (runsHash k) := fun E s Q e hq => by
 subst e
 refine RN.tup_hash (Nat.lt_of_succ_lt hu) x ?_ hq
 have hu' : (A.in1).units < cLine := hu
 clear hq x
 induction y with
 | nil => exact .nil
 | cons x _ ih => exact .cons (pair_hash hu' x) ih
theorem key_hash {k : BKey} {a : Addr} (hu : A.units + 2 < cLine) (x : KeyAt h k a) : RN.HashTo P w A h (.ref a) (keyHash k) := fun E s Q e hq => by
 subst e
 obtain ⟨t, rs, x1, x2, x3⟩ := x
 exact RN.tup_hash (by omega) x1 (.cons (runs_hash (A := A.in1) (by show A.units + 1 + 1 < _; exact hu) x2 x3) (.cons (RN.bool_hash (by show A.units + 1 < _; omega) _) .nil)) hq
theorem pair_eq {p q : Nat × Nat} {u v : Value} (hu : A.units < cLine) (x : PairAt h p u) (y : PairAt h q v) : RN.EqTo P w A h u v (decide (p = q)) := fun E s Q e hq => by
 subst e
 obtain ⟨b, t, t2, rfl, xt⟩ := x
 obtain ⟨c, t', t3, rfl, yt⟩ := y
 have e : decide (p = q) = (((p.1 : Int) == (q.1 : Int)) && (((p.2 : Int) == (q.2 : Int)) && true)) := by
  obtain ⟨p1, p2⟩ := p
  obtain ⟨q1, q2⟩ := q
  by_cases e1 : p1 = q1
  ·by_cases e2 : p2 = q2
   ·simp [e1, e2]
   ·simp [e1, e2]; omega
  ·simp [e1]; omega
 refine RN.tup_eq hu xt yt (by rw [e]; exact .cons (RN.int_eq _ _ _ _) (.cons (RN.int_eq _ _ _ _) .nil)) (fun z => ?_) hq
 subst z
 have := TupAt.inj xt yt
 simp at this
 exact decide_eq_true (Prod.ext (by omega) (by omega))
theorem runs_eqAll {h : Heap} (hu : A.units < cLine) : ∀ {k j : List (Nat × Nat)} {rs us : List Value}, RN.All2 (fun p v => PairAt h p v) k rs -> RN.All2 (fun p v => PairAt h p v) j us -> RN.EqAll P w A h rs us (decide (k = j))
 | _, _, _, _, .nil, .nil => by simpa using RN.EqAll.nil
 | _, _, _, _, .nil, .cons _ _ => by simpa using RN.EqAll.right
 | _, _, _, _, .cons _ _, .nil => by simpa using RN.EqAll.left
 | p :: k, q :: j, _, _, .cons x l, .cons y m => by
  have e : decide (p :: k = q :: j) = (decide (p = q) && decide (k = j)) := by
   by_cases e1 : p = q <;> by_cases e2 : k = j <;> simp [e1, e2]
  rw [e]
  exact .cons (pair_eq hu x y) (runs_eqAll hu l m)
theorem key_eq {k j : BKey} {a b : Addr} (hu : A.units + 2 < cLine) (x : KeyAt h k a) (y : KeyAt h j b) : RN.EqTo P w A h (.ref a) (.ref b) (decide (k = j)) := fun E s Q e hq => by
 subst e
 have same : a = b -> decide (k = j) = true := fun z => by
  subst z
  exact decide_eq_true (x.inj y)
 obtain ⟨t, rs, x1, x2, x3⟩ := x
 obtain ⟨t', rs', y1, y2, y3⟩ := y
 have e : decide (k = j) = (decide (k.1 = j.1) && ((k.2 == j.2) && true)) := by
  obtain ⟨k1, k2⟩ := k
  obtain ⟨j1, j2⟩ := j
  by_cases e1 : k1 = j1
  ·cases k2 <;> cases j2 <;> simp [e1]
  ·simp [e1]
 have hu1 : (A.in1).units < cLine := by show A.units + 1 < _; omega
 have hu2 : (A.in1.in1).units < cLine := by show A.units + 1 + 1 < _; omega
 have inner : RN.EqTo P w A.in1 s.heap (.ref t) (.ref t') (decide (k.1 = j.1)) := by
  intro E' s' Q' e' hq'
  refine RN.tup_eq hu1 (s := s') (its := rs) (jts := rs') (by rw [e']; exact x2) (by rw [e']; exact y2) (by rw [e']; exact runs_eqAll hu2 x3 y3) (fun z => ?_) hq'
  subst z
  have e3 := TupAt.inj x2 y2
  subst e3
  exact decide_eq_true (pairs_inj x3 y3)
 refine RN.tup_eq (by omega) x1 y1 (by rw [e]; exact .cons inner (.cons (RN.bool_eq _ _) .nil)) same hq
theorem key_quiet {k : BKey} {a : Addr} (x : KeyAt h k a) : RN.QuietTo P w A h 8 (.ref a) := fun E s Q e hq => by
 subst e
 obtain ⟨t, rs, x1, x2, x3⟩ := x
 refine RN.tup_quiet x1 (fun v hv => ?_) hq
 simp at hv
 rcases hv with rfl | rfl
 ·intro E' s' Q' e' hq'
  refine RN.tup_quiet (s := s') (by rw [e']; exact x2) (fun v hv => ?_) hq'
  rw [e']
  have all : ∀ {k : List (Nat × Nat)} {rs : List Value}, RN.All2 (fun p v => PairAt s.heap p v) k rs -> ∀ v ∈ rs, RN.QuietTo P w A s.heap 6 v := by
   intro k rs y
   induction y with
   | nil => intro v hv; cases hv
   | cons x _ ih =>
    intro v hv
    rcases List.mem_cons.mp hv with rfl | hv
    ·obtain ⟨b, t, u, rfl, x⟩ := x
     intro E2 s2 Q2 e2 hq2
     refine RN.tup_quiet (s := s2) (by rw [e2]; exact x) (fun v hv => ?_) hq2
     simp at hv
     rcases hv with rfl | rfl
     ·exact RN.byval_quiet _ rfl
     ·exact RN.byval_quiet _ rfl
    ·exact ih v hv
  exact all x3 v hv
 ·exact RN.byval_quiet _ rfl
end
def begKind (P : Program) (w : World) : HeapKind P w BKey where
 is := KeyAt
 hash := fun k => (keyHash k).1
 draws := fun k => (keyHash k).2
 room := fun A => A.units + 2 < cLine
 inj := fun x y => x.inj y
 keeps := fun x ho hd hs => x.keeps ho hd hs
 pyHash := fun hu hk h => key_hash hu hk _ _ _ rfl h
 eqBool := fun hu hx hy h => key_eq hu hx hy _ _ _ rfl h
 quiet := fun hk h => key_quiet hk _ _ _ rfl h
end RA
end
section
namespace RA
open PySem L2
inductive PairsV (H : Hp) : List (Nat × Nat) -> List V -> Prop
 | nil : PairsV H [] []
 | cons {p : Nat × Nat} {r : Addr} {ps : List (Nat × Nat)} {vs : List V} : H r = some (.tup [.int (p.1 : Int), .int (p.2 : Int)]) -> PairsV H ps vs -> PairsV H (p :: ps) (.ref r :: vs)
def KeyV (H : Hp) (k : BKey) (b : Addr) : Prop := ∃ t vs, H b = some (.tup [.ref t, .bl k.2]) /\ H t = some (.tup vs) /\ PairsV H k.1 vs
theorem PairsV.same {H H' : Hp} (ht : ∀ b ys, H b = some (.tup ys) -> H' b = some (.tup ys)) : ∀ {ps : List (Nat × Nat)} {vs : List V}, PairsV H ps vs -> PairsV H' ps vs
 | _, _, .nil => .nil
 | _, _, .cons h t => .cons (ht _ _ h) (t.same ht)
theorem KeyV.same {H H' : Hp} {k : BKey} {b : Addr} (x : KeyV H k b) (ht : ∀ b ys, H b = some (.tup ys) -> H' b = some (.tup ys)) : KeyV H' k b := by
 obtain ⟨t, vs, h1, h2, h3⟩ := x
 exact ⟨t, vs, ht _ _ h1, ht _ _ h2, h3.same ht⟩
theorem tup_at {P : Program} {w : World} {H : Hp} {h : Heap} {a : Addr} {vs : List V} (ok : HOk P w H h) (e : H a = some (.tup vs)) : ∃ its, Vals vs its /\ RN.TupAt h a its := by
 obtain ⟨_, its, r, o, h1, h2, n, h3, _⟩ := (show ObjOk P w H h a (.tup vs) from ok a _ e)
 exact ⟨its, r, o, n, h1, h2, h3⟩
theorem pairs_at {P : Program} {w : World} {H : Hp} {h : Heap} (ok : HOk P w H h) : ∀ {ps : List (Nat × Nat)} {vs : List V} {its : List Value}, PairsV H ps vs -> Vals vs its -> RN.All2 (fun p v => PairAt h p v) ps its
 | _, _, _, .nil, r => by cases r; exact .nil
 | _, _, _, .cons hr t, r => by
  cases r with
  | cons r1 r2 =>
   refine .cons ?_ (pairs_at ok t r2)
   cases r1
   obtain ⟨its, q, z⟩ := tup_at ok hr
   cases q with
   | cons q1 q2 =>
    cases q2 with
    | cons q2 q3 =>
     cases q3
     obtain ⟨t1, rfl⟩ := q1
     obtain ⟨t2, rfl⟩ := q2
     exact ⟨_, t1, t2, rfl, z⟩
theorem KeyV.at {P : Program} {w : World} {H : Hp} {h : Heap} {k : BKey} {b : Addr} (ok : HOk P w H h) (x : KeyV H k b) : KeyAt h k b := by
 obtain ⟨t, vs, h1, h2, h3⟩ := x
 obtain ⟨its, r1, z1⟩ := tup_at ok h1
 obtain ⟨jts, r2, z2⟩ := tup_at ok h2
 cases r1 with
 | cons q1 q2 =>
  cases q2 with
  | cons q2 q3 =>
   cases q3
   cases q1
   cases q2
   exact ⟨t, jts, z1, z2, pairs_at ok h3 r2⟩
def NdAt (P : Program) (w : World) (a : Addr) (xs : List (BKey × Addr × Value)) : Heap -> Prop := fun h => ∃ o es ep, h.get? a = some o /\ o.ExactDict /\ o.data = .dict es ep /\ es.toList = xs.map (entryOfKey (begKind P w))
theorem NdAt.ok {P : Program} {w : World} {H : Hp} {h : Heap} {a : Addr} {xs : List (BKey × Addr × Value)} (x : NdAt P w a xs h) : ObjOk P w H h a (.ext (NdAt P w a xs)) := by
 refine ⟨x, ?_, fun h1 h2 y k => ?_⟩
 ·obtain ⟨o, es, ep, e, _⟩ := x
  exact ⟨o, e⟩
 ·obtain ⟨o, es, ep, e, r⟩ := y
  exact ⟨o, es, ep, k o e, r⟩
abbrev KB (H : Hp) : List (BKey × V) -> List (BKey × Addr × Value) -> Prop := Paired fun p q => p.1 = q.1 /\ KeyV H p.1 q.2.1 /\ RelV p.2 q.2.2
structure BDict (P : Program) (w : World) (H : Hp) (a : Addr) (kvs : List (BKey × V)) : Prop where
 ex : ∃ xs, H a = some (.ext (NdAt P w a xs)) /\ KB H kvs xs /\ (xs.map (·.1)).Nodup
 le : kvs.length <= sizeLine
 ns : (a == sysModules) = false
theorem KB.val {H : Hp} {kvs : List (BKey × V)} {xs : List (BKey × Addr × Value)} (r : KB H kvs xs) (k : BKey) : RelO (valV kvs k) ((atKey xs k).map (·.2)) := by
 induction r with
 | nil => exact True.intro
 | @cons p q ps qs h t ih =>
  obtain ⟨h1, _, h2⟩ := h
  by_cases e : p.1 = k
  ·have e' : q.1 = k := h1.symm.trans e
   have b : atKey (q :: qs) k = some q.2 := by simp [atKey, List.find?_cons, e']
   rw [valV_pos e, b]; exact h2
  ·have e' : ¬ q.1 = k := fun z => e (h1.trans z)
   have b : atKey (q :: qs) k = atKey qs k := by simp [atKey, List.find?_cons, e']
   rw [valV_neg e, b]; exact ih
theorem KB.repl {H : Hp} {kvs : List (BKey × V)} {xs : List (BKey × Addr × Value)} (r : KB H kvs xs) (k : BKey) {y : V} {u : Value} (ry : RelV y u) :
  KB H (kvs.map fun kv => if kv.1 = k then (kv.1, y) else kv) (xs.map (putAt k u)) := by
 induction r with
 | nil => exact .nil
 | @cons p q ps qs h t ih =>
  rw [List.map_cons, List.map_cons]
  refine .cons ?_ ih
  obtain ⟨h1, h2, h3⟩ := h
  unfold putAt
  by_cases e : p.1 = k
  ·rw [if_pos e, if_pos (h1.symm.trans e)]; exact ⟨h1, h2, ry⟩
  ·rw [if_neg e, if_neg (fun z => e (h1.trans z))]; exact ⟨h1, h2, h3⟩
theorem KB.put {H : Hp} {kvs : List (BKey × V)} {xs : List (BKey × Addr × Value)} (r : KB H kvs xs) (k : BKey) {b : Addr} {y : V} {u : Value} (hb : KeyV H k b) (ry : RelV y u) :
  KB H (putK kvs k y) (storedH xs k b u) := by
 have e : (kvs.any fun kv => decide (kv.1 = k)) = (atKey xs k).isSome := by
  rw [valV_any, (r.val k).isSome_eq, Option.isSome_map]
 unfold putK storedH
 rw [e]
 by_cases q : (atKey xs k).isSome = true
 ·rw [if_pos q, if_pos q]; exact r.repl k ry
 ·rw [if_neg q, if_neg q]; exact Paired.snoc r ⟨rfl, hb, ry⟩
theorem KB.keeps {H H' : Hp} {kvs : List (BKey × V)} {xs : List (BKey × Addr × Value)} (r : KB H kvs xs) (ht : ∀ b ys, H b = some (.tup ys) -> H' b = some (.tup ys)) : KB H' kvs xs :=
 Paired.mapP r fun _ _ z => ⟨z.1, z.2.1.same ht, z.2.2⟩
theorem BDict.same {P : Program} {w : World} {H H' : Hp} {a : Addr} {kvs : List (BKey × V)} (d : BDict P w H a kvs) (ha : ∀ o, H a = some o -> H' a = some o) (ht : ∀ b ys, H b = some (.tup ys) -> H' b = some (.tup ys)) : BDict P w H' a kvs := by
 obtain ⟨⟨xs, h1, h2, h3⟩, l, n⟩ := d
 exact ⟨⟨xs, ha _ h1, h2.keeps ht, h3⟩, l, n⟩
theorem BDict.here {P : Program} {w : World} {H : Hp} {a : Addr} {kvs : List (BKey × V)} (d : BDict P w H a kvs) : ∃ φ, H a = some (.ext φ) := let ⟨⟨_, h, _⟩, _, _⟩ := d; ⟨_, h⟩
theorem BDict.dict {P : Program} {w : World} {H : Hp} {h : Heap} {a : Addr} {kvs : List (BKey × V)} {xs : List (BKey × Addr × Value)} (ok : HOk P w H h) (e : H a = some (.ext (NdAt P w a xs))) (r : KB H kvs xs) (nd : (xs.map (·.1)).Nodup) :
  h.DictOfH (begKind P w) a xs := by
 obtain ⟨⟨o, es, ep, h1, h2, h3, h4⟩, _, _⟩ := (show ObjOk P w H h a (.ext (NdAt P w a xs)) from ok a _ e)
 refine ⟨o, es, ep, h1, h2, h3, h4, fun x hx => ?_, nd⟩
 have all : ∀ {l : List (BKey × V)} {m : List (BKey × Addr × Value)}, KB H l m -> ∀ x ∈ m, KeyAt h x.1 x.2.1 := by
  intro l m q
  induction q with
  | nil => intro x hx; exact nomatch hx
  | @cons p q ps qs hq t ih =>
   intro x hx
   rcases List.mem_cons.mp hx with e | hx
   ·subst e
    rw [<- hq.1]
    exact hq.2.1.at ok
   ·exact ih x hx
 exact all r x hx
section
variable {X : Cx} {pins : List (Addr × Obj)} {σ : St} {H : Hp} {s : Shared} {a b : Addr} {k : BKey} {kvs : List (BKey × V)} {v : V} {r : Value} {A : Around} {E : Value -> Shared -> Prop}
theorem b_room (hu : A.units + 3 < cLine) : (begKind X.prog X.w).room A.in1 := by
 show A.units + 1 + 2 < cLine
 exact hu
theorem b_get {Q : Value -> Shared -> Prop} (hu : A.units + 3 < cLine) (I : Inv X pins σ H s) (d : BDict X.prog X.w H a kvs) (kb : KeyV H k b) (hv : valV kvs k = some v) (h : ∀ w' s', Inv X pins σ H s' -> RelV v w' -> Q w' s') :
  wpAny (model X.prog X.w) A (getItem (.ref a) (.ref b)) Q E s := by
 obtain ⟨⟨xs, e, rel, nd⟩, _, _⟩ := d
 obtain ⟨w', hw, rw'⟩ := RelO.some_of (v := v) (o := (atKey xs k).map (·.2)) (by rw [<- hv]; exact rel.val k)
 obtain ⟨p, hp, hp2⟩ := Option.map_eq_some_iff.mp hw
 refine wpAny_getItem_heap (knd := begKind X.prog X.w) (b_room hu) (kb.at I.hok) (BDict.dict I.hok e rel nd) hp ?_
 rw [hp2]
 exact h w' _ (I.tok _) rw'
theorem b_notIn {Q : Value -> Shared -> Prop} (hu : A.units + 3 < cLine) (I : Inv X pins σ H s) (d : BDict X.prog X.w H a kvs) (kb : KeyV H k b) (h : ∀ s', Inv X pins σ H s' -> Q (.bool (!(valV kvs k).isSome)) s') :
  wpAny (model X.prog X.w) A (compareOp .NotIn (.ref b) (.ref a)) Q E s := by
 obtain ⟨⟨xs, e, rel, nd⟩, _, ns⟩ := d
 refine PyProof.Rows.wpAny_notIn_heap (knd := begKind X.prog X.w) (b_room hu) (kb.at I.hok) ns (BDict.dict I.hok e rel nd) ?_
 have q := (rel.val k).isSome_eq
 rw [Option.isSome_map] at q
 rw [<- q]
 exact h _ (I.tok _)
theorem b_set {Q : Unit -> Shared -> Prop} (hu : A.units + 3 < cLine) (I : Inv X pins σ H s) (d : BDict X.prog X.w H a kvs) (kb : KeyV H k b) (hl : kvs.length < sizeLine) (rv : RelV v r)
  (h : ∀ s' xs, Inv X pins σ (upd H a (.ext (NdAt X.prog X.w a xs))) s' -> BDict X.prog X.w (upd H a (.ext (NdAt X.prog X.w a xs))) a (putK kvs k v) -> Q () s') :
  wpAny (model X.prog X.w) A (setItem (.ref a) (.ref b) r) Q E s := by
 obtain ⟨⟨xs, e, rel, nd⟩, le, ns⟩ := d
 have hz : xs.length <= sizeLine := by rw [<- Paired.length rel]; exact le
 have hl' : (putK kvs k v).length <= sizeLine := by have := length_putK kvs k v; omega
 refine wpAny_setItem_heap (knd := begKind X.prog X.w) (hsz := hz) (b_room hu) (kb.at I.hok) (BDict.dict I.hok e rel nd) fun h' dd' hs => h _ (storedH xs k b r) ?_ ?_
 ·obtain ⟨q, es, ep, hq, h2, h3, h4, _, h5⟩ := dd'
  exact d_write I (by rw [e]; exact True.intro) hs ⟨q, hq⟩ (NdAt.ok ⟨q, es, ep, hq, h2, h3, h4⟩)
 ·obtain ⟨q, es, ep, hq, h2, h3, h4, _, h5⟩ := dd'
  refine ⟨⟨_, upd_same, (rel.put k kb rv).keeps fun c ys ec => ?_, h5⟩, hl', ns⟩
  rw [upd_ne (ne_of ec e (fun z => nomatch z))]
  exact ec
theorem b_type (I : Inv X pins σ H s) (d : BDict X.prog X.w H a kvs) : s.TypeIs (.ref a) "dict" := by
 obtain ⟨⟨xs, e, rel, nd⟩, _, _⟩ := d
 exact (BDict.dict I.hok e rel nd).typeIs
end
def tBGet (P : Program) (w : World) (td ty : TE) : TE := fun σ H Q => td σ H fun x H1 => ty σ H1 fun y H2 => ∃ a b kvs k v, x = .ref a /\ y = .ref b /\ BDict P w H2 a kvs /\ KeyV H2 k b /\ valV kvs k = some v /\ Q v H2
def tBNotIn (P : Program) (w : World) (ty td : TE) : TE := fun σ H Q => ty σ H fun y H1 => td σ H1 fun x H2 => ∃ a b kvs k, x = .ref a /\ y = .ref b /\ BDict P w H2 a kvs /\ KeyV H2 k b /\ Q (.bl (!(valV kvs k).isSome)) H2
def sBPut (P : Program) (w : World) (td ty tv : TE) : TS := fun D σ H => tv σ H fun v H1 => td σ H1 fun x H2 => ty σ H2 fun y H3 => ∃ a b kvs k, x = .ref a /\ y = .ref b /\ BDict P w H3 a kvs /\ KeyV H3 k b /\ kvs.length < sizeLine /\
 ∀ xs, BDict P w (upd H3 a (.ext (NdAt P w a xs))) a (putK kvs k v) -> D.nx σ (upd H3 a (.ext (NdAt P w a xs)))
def tDNewB (P : Program) (w : World) : TE := fun _ H Q => ∀ p, H p = none -> BDict P w (upd H p (.ext (NdAt P w p []))) p [] -> Q (.ref p) (upd H p (.ext (NdAt P w p [])))
section
variable {X : Cx} {o i value : Expr} {pos pos' : Pos} {td ty tv : TE}
theorem pe_bget (hu : X.A.units + 3 < cLine) (ho : PE X o td) (hi : PE X i ty) (hs : NoSl i) : PE X (.Subscript o i pos) (tBGet X.prog X.w td ty) := by
 intro pins s σ H Q I h
 refine subD_of PySem.F.slot_dict_getitem.lookup hs (thn (ho pins s σ H _ I h) fun u s1 ⟨x, H1, I1, rx, q1⟩ => thn (hi pins s1 σ H1 _ I1 q1) fun iv s2 ⟨y, H2, I2, ry, a, b, kvs, k, v, ex, ey, d, kb, hv, q2⟩ => ?_)
 subst ex ey
 obtain rfl : u = Value.ref a := rx
 obtain rfl : iv = Value.ref b := ry
 exact ⟨b_type I2 d, b_get hu I2 d kb hv fun w' s3 I3 rw' => ⟨v, H2, I3, rw', q2⟩⟩
theorem pc_bnotin (hu : X.A.units + 3 < cLine) (hi : PE X i ty) (ho : PE X o td) : PC X .NotIn i o (tBNotIn X.prog X.w ty td) := by
 intro pins s σ H Q I h
 refine thn (hi pins s σ H _ I h) fun iv s1 ⟨y, H1, I1, ry, q1⟩ => thn (ho pins s1 σ H1 _ I1 q1) fun u s2 ⟨x, H2, I2, rx, a, b, kvs, k, ex, ey, d, kb, q2⟩ => ?_
 subst ex ey
 obtain rfl : u = Value.ref a := rx
 obtain rfl : iv = Value.ref b := ry
 exact b_notIn hu I2 d kb fun s3 I3 => ⟨.bl (!(valV kvs k).isSome), H2, I3, rfl, q2⟩
theorem ps_bput (hu : X.A.units + 3 < cLine) (ho : PE X o td) (hi : PE X i ty) (hv : PE X value tv) (hs : swapsWith value (some (.Subscript o i pos')) pos.line X.env = pure false) :
  PS X (.Assign [.Subscript o i pos'] value pos) (sBPut X.prog X.w td ty tv) := by
 intro pins s σ H D I h
 refine wpAny_Assign_Subscript (thn (hv pins s σ H _ I h) fun r s1 ⟨v, H1, I1, rv, q1⟩ => thn (ho pins s1 σ H1 _ I1 q1) fun u s2 ⟨x, H2, I2, rx, q2⟩ => thn (hi pins s2 σ H2 _ I2 q2) fun iv s3 ⟨y, H3, I3, ry, a, b, kvs, k, ex, ey, d, kb, hl, q3⟩ => ?_) hs
 subst ex ey
 obtain rfl : u = Value.ref a := rx
 obtain rfl : iv = Value.ref b := ry
 exact b_set hu I3 d kb hl rv fun s4 xs I4 d4 => ⟨σ, _, I4, q3 xs d4⟩
theorem pe_dnewB : PE X (.Dict [] [] pos) (tDNewB X.prog X.w) := fun pins s σ H Q I h => by
 have hn : (s.heap.objs.size == sysModules) = false := beq_eq_false_iff_ne.mpr (Ne.symm (Nat.ne_of_lt I.big))
 have hf : H s.heap.objs.size = none := I.hok.fresh (Nat.le_refl _)
 refine wpAny_Dict_empty ⟨.ref s.heap.objs.size, _, I.laid (a := s.heap.objs.size) (o := .ext (NdAt X.prog X.w s.heap.objs.size [])) (t' := s.toks) (fun _ _ q => Heap.get?_push_of_some _ q) (Nat.le_refl _) ?_, rfl, h _ hf ⟨⟨[], upd_same, .nil, List.nodup_nil⟩, Nat.zero_le _, hn⟩⟩
 exact NdAt.ok ⟨_, #[], 0, Heap.get?_push_size _ rfl, ⟨rfl, rfl, rfl⟩, rfl, rfl⟩
end
end RA
end
section
namespace RA
open PySem PySem.Spec PyProof.Rows L2
theorem ints_vals : ∀ {ns : List Int} {us : List Value}, Vals (ns.map V.int) us -> IntsAre us ns
 | [], _, r => by cases r; exact .nil
 | n :: ns, _, r => by
  cases r with
  | cons h t =>
   obtain ⟨k, rfl⟩ := h
   exact .cons n k (ints_vals t)
theorem tcount_tree {P : Program} {w : World} {A : Around} {E : Value -> Shared -> Prop} {s : Shared} {a : Addr} {its : List Value} {ns : List Int} {k : Int} {t : Tok} {G : PySem.Fin -> Shared -> Prop} (ht : RN.TupAt s.heap a its) (hi : IntsAre its ns)
  (h : ∀ t', G (.done (.ret (.int (ns.count k : Nat) t'))) { s with toks := s.toks + 1 }) : wpAny (model P w) A (Builtin.«tuple.count» ⟨[.ref a, .int k t], []⟩) G E s := by
 obtain ⟨o, n, ho, _, hd⟩ := ht
 show wpAny _ A (do let mut n : Nat := 0; for y in <- Builtin.Tuple.tupleItemsOf (.ref a) do { if <- eqBool y (.int k t) then n := n + 1 }; retInt n) _ _ s
 refine wpAny_bind (wpAny_tupleItemsOf ho hd ?_)
 refine wpAny_bind ?_
 rw [<- Array.forIn_toList]
 refine wpAny_forIn_list _ (fun rest (got : Nat) s' => s' = s /\ ∃ left, IntsAre rest left /\ got + left.count k = ns.count k) _ ?_ ?_ _ _ ⟨rfl, ns, by simpa using hi, by simp⟩
 ·rintro x rest got s' ⟨rfl, left, hl, hc⟩
  cases hl with
  | cons m tk hl =>
   rename_i left'
   refine wpAny_bind (wpAny_eqBool_int ?_)
   rw [List.count_cons] at hc
   by_cases e : m = k
   ·subst e
    simp only [beq_self_eq_true, if_true] at hc ⊢
    exact wpAny_pure ⟨rfl, left', hl, by omega⟩
   ·have e' : (m == k) = false := beq_eq_false_iff_ne.mpr e
    rw [e'] at hc ⊢
    simp only [Bool.false_eq_true, if_false] at hc ⊢
    exact wpAny_pure ⟨rfl, left', hl, by omega⟩
 ·rintro got s' ⟨rfl, left, hl, hc⟩
  cases hl
  have hc : got = ns.count k := by simpa using hc
  subst hc
  exact wpAny_bind (wpAny_mkInt (wpAny_pure (h _)))
theorem mt_tcount {X : Cx} : MtR X "tuple.count" (fun x xs H Q => ∃ (a : Addr) (ns : List Int) (k : Int), x = .ref a /\ xs = [.int k] /\ SqT X.K H a (ns.map V.int) /\ Q (.int (ns.count k : Nat)) H) := by
 intro pins s σ H x xs v us Q I rx rxs h
 obtain ⟨a, ns, k, rfl, rfl, hs, q⟩ := h
 cases rx
 cases rxs with
 | cons ry rt =>
  cases rt
  obtain ⟨t, rfl⟩ := ry
  obtain ⟨its, rv, ⟨o, ho, hc, n, hd⟩, _⟩ := I.tuple hs
  refine wpAny_call_entry PySem.F.slot_tuple_count ⟨o, ho, hc⟩ PySem.F.entry_tuple_count ?_ (PySem.F.args_tuple_count_2 _ _)
  exact tcount_tree ⟨o, n, ho, hc, hd⟩ (ints_vals rv) fun t' => ⟨_, rfl, .int (ns.count k : Nat), H, I.tok _, ⟨t', rfl⟩, q⟩
abbrev Ex (a : Addr) (o : Obj) : HO := .ext fun h => h.get? a = some o
theorem Ex.ok {P : Program} {w : World} {H : Hp} {h : Heap} {a : Addr} {o : Obj} (e : h.get? a = some o) : ObjOk P w H h a (Ex a o) := ⟨e, ⟨o, e⟩, fun _ _ x k => k o x⟩
theorem Ex.get {P : Program} {w : World} {H : Hp} {h : Heap} {a : Addr} {o : Obj} (ok : HOk P w H h) (e : H a = some (Ex a o)) : h.get? a = some o := (show ObjOk P w H h a (Ex a o) from ok a _ e).1
def del (H : Hp) (a : Addr) : Hp := fun b => if b = a then none else H b
theorem del_same {H : Hp} {a : Addr} : del H a a = none := if_pos rfl
theorem del_ne {H : Hp} {a b : Addr} (h : b ≠ a) : del H a b = H b := if_neg h
theorem HOk.del {P : Program} {w : World} {H : Hp} {h : Heap} {a : Addr} {φ : Heap -> Prop} (ok : HOk P w H h) (e : H a = some (.ext φ)) : HOk P w (del H a) h := fun b u q => by
 have hb : b ≠ a := fun z => by rw [z, del_same] at q; cases q
 rw [del_ne hb] at q
 refine (ok b u q).stay (fun c v _ r => r) (fun c r => ?_) fun c xs r => ?_
 ·rw [del_ne (ne_of r e (by intro z; cases z))]; exact r
 ·rw [del_ne (ne_of r e (by intro z; cases z))]; exact r
theorem HOk.track {P : Program} {w : World} {H : Hp} {h : Heap} {a : Addr} {o : Obj} (ok : HOk P w H h) (n : H a = none) (e : h.get? a = some o) : HOk P w (upd H a (Ex a o)) h := fun b u q => by
 by_cases hb : b = a
 ·subst hb
  rw [upd_same] at q
  cases q
  exact Ex.ok e
 ·rw [upd_ne hb] at q
  refine (ok b u q).stay (fun c v _ r => r) (fun c r => ?_) fun c xs r => ?_
  ·rw [upd_ne (ne_of_none r n)]; exact r
  ·rw [upd_ne (ne_of_none r n)]; exact r
end RA
end
section
namespace RA
open PySem PySem.Spec PyProof.Rows L2
def BMain (base : Heap) (mg : Str -> Option Value) : Prop := ∃ bm ob, mg "__builtins__" = some (.ref bm) /\ bm ≠ builtinsNs /\ base.get? bm = some ob /\ ob.cls = .type "module" /\ ob.dict = some builtinsNs /\ ob.data = .plain
def CodeV (H : Hp) (c : Addr) (qual : Str) : Prop := ∃ oc vs t, H c = some (Ex c oc) /\ oc.data = .fields vs /\ vs[1]? = some (.str qual t)
def TabV (H : Hp) (P : Addr) (pos : Pos) (qual : Str) : Prop := H P = some (.tbl #[]) \/ ∃ c, H P = some (.tbl #[rawInt pos.line, rawInt pos.col, .ref c]) /\ CodeV H c qual
structure Lam where
 params : Arguments
 body : Expr
 scope : Scope
 clos : List (Str × Addr)
 pm : Value
 qual : Str
def LamV (H : Hp) (f : Addr) (l : Lam) : Prop := ∃ c ctv, H f = some (Ex f (PySem.W.kla_obj "<lambda>" l.qual l.params l.body l.scope l.clos l.pm c ctv)) /\ CodeV H c l.qual
def But (H H' : Hp) (P : Addr) : Prop := ∀ b o, H b = some o -> b ≠ P -> H' b = some o
def tLam (P : Addr) (pos : Pos) (l : Lam) : TE := fun _ H Q => TabV H P pos l.qual /\ ∀ f H', H f = none -> LamV H' f l -> TabV H' P pos l.qual -> But H H' P -> Q (.ref f) H'
section
variable {X : Cx} {pins : List (Addr × Obj)} {σ : L2.St} {H : Hp} {s : Shared} {c P : Addr}
theorem BMain.at (b : BMain X.base X.mg) (I : Inv X pins σ H s) (hP : H P ≠ none) : s.heap.BuiltinsAt X.mg P := by
 obtain ⟨bm, ob, b1, b2, b3, b4, b5, b6⟩ := b
 have hs := I.bs _ _ b3
 refine ⟨bm, ob, b1, b2, fun q => ?_, fun q => ?_, hs.1, b4, b5, b6⟩
 ·obtain ⟨o, es, ep, e, hd, _⟩ := I.mod.glob
  rw [q, e] at b3
  cases b3
  rw [hd] at b6
  cases b6
 ·rw [q] at hs
  exact hP hs.2
theorem glob_ne (I : Inv X pins σ H s) (hP : H P ≠ none) : mainGlobals ≠ P := fun q => by
 obtain ⟨o, es, ep, e, hd, _⟩ := I.mod.glob
 have := (I.bs _ _ e).2
 rw [q] at this
 exact hP this
theorem tbl_at (I : Inv X pins σ H s) {ps : Array Value} (e : H P = some (.tbl ps)) : s.heap.get? P = some (PySem.W.tabObj ps) := show ObjOk X.prog X.w H s.heap P (.tbl ps) from I.hok P _ e
theorem inv_lamNew {h' : Heap} {tk : Nat} {c' : Addr} {oc of : Obj} {ps more : Array Value} (I : Inv X pins σ H s) (eP : H P = some (.tbl ps)) (hx : Heap.ExtBut P s.heap h') (hge : s.heap.objs.size <= c') (hlt : c' < h'.objs.size)
  (hc : h'.get? c' = some oc) (ht : h'.get? P = some (PySem.W.tabObj (ps ++ more))) (hof : of.isFreed = false) :
  Inv X pins σ (upd (upd (upd H P (.tbl (ps ++ more))) c' (Ex c' oc)) h'.objs.size (Ex h'.objs.size of)) { s with heap := h'.push of, toks := tk } := by
 have nP : ∀ b, H b = none -> b ≠ P := fun b n z => by rw [z, eP] at n; cases n
 have lP : P < s.heap.objs.size := I.hok.lt eP
 have lc : ∀ b o, s.heap.get? b = some o -> b ≠ c' := fun b o e => Nat.ne_of_lt (Nat.lt_of_lt_of_le (Heap.lt_size e) hge)
 have hsz : s.heap.objs.size <= h'.objs.size := Nat.le_of_lt (Nat.lt_of_le_of_lt hge hlt)
 have lf : ∀ b o, s.heap.get? b = some o -> b ≠ h'.objs.size := fun b o e => Nat.ne_of_lt (Nat.lt_of_lt_of_le (Heap.lt_size e) hsz)
 have Hc : H c' = none := I.hok.fresh hge
 have Hf : H h'.objs.size = none := I.hok.fresh hsz
 have kp : ∀ b o, b ≠ P -> s.heap.get? b = some o -> (h'.push of).get? b = some o := fun b o hb e => Heap.get?_push_of_some _ (hx b o hb e)
 have old : ∀ b u, H b = some u -> b ≠ P -> (upd (upd (upd H P (.tbl (ps ++ more))) c' (Ex c' oc)) h'.objs.size (Ex h'.objs.size of)) b = some u := fun b u e hb => by
  rw [upd_ne (ne_of_none e Hf), upd_ne (ne_of_none e Hc), upd_ne hb]
  exact e
 have ePn : (upd (upd (upd H P (.tbl (ps ++ more))) c' (Ex c' oc)) h'.objs.size (Ex h'.objs.size of)) P = some (.tbl (ps ++ more)) := by
  rw [upd_ne (ne_of_none eP Hf), upd_ne (ne_of_none eP Hc), upd_same]
 refine I.un ⟨fun b o e n hb _ => kp b o (nP b n) e, fun b o e n hb _ => ⟨o.slots, kp b o (nP b n) e⟩, fun b o e n _ => ?_, fun b o e _ => ?_, fun b xs e => old b _ e (ne_of e eP (by intro z; cases z)), fun b o u e => old b _ e (ne_of e eP (by intro z; cases z)), fun b qs e => ?_⟩ fun b u e => ?_
 ·rw [upd_ne (lf b o e), upd_ne (lc b o e), upd_ne (nP b n)]
  exact n
 ·by_cases hb : b = P
  ·subst hb
   exact ⟨_, Heap.get?_push_of_some _ ht⟩
  ·exact ⟨o, kp b o hb e⟩
 ·by_cases hb : b = P
  ·subst hb
   rw [eP] at e
   cases e
   exact ⟨more, ePn⟩
  ·exact ⟨#[], by rw [old b _ e hb]; simp⟩
 ·by_cases hf : b = h'.objs.size
  ·rw [hf, upd_same] at e
   cases e
   rw [hf]
   exact Ex.ok (Heap.get?_push_size _ hof)
  ·rw [upd_ne hf] at e
   by_cases hb : b = c'
   ·rw [hb, upd_same] at e
    cases e
    rw [hb]
    exact Ex.ok (Heap.get?_push_of_some _ hc)
   ·rw [upd_ne hb] at e
    by_cases hp : b = P
    ·rw [hp, upd_same] at e
     cases e
     rw [hp]
     exact Heap.get?_push_of_some _ ht
    ·rw [upd_ne hp] at e
     refine (I.hok b u e).stay (fun d v hd q => kp d v ?_ q) (fun d q => old d _ q (ne_of q eP (by intro z; cases z))) fun d xs q => old d _ q (ne_of q eP (by intro z; cases z))
     rcases hd with rfl | hd
     ·exact hp
     ·exact ne_of hd eP (by intro z; cases z)
theorem pe_lam {l : Lam} {pos : Pos} (hcode : X.env.code = .ref c) (C : PySem.W.CodeHd X.base c P) (B : BMain X.base X.mg) (hq : l.qual = X.env.qual ++ "<lambda>") (hpm : l.pm = (X.mg "__name__").getD .none)
  (hdef : PySem.defaultsOf l.params X.env = ([], [])) (hcl : PySem.closureFor l.scope X.env = pure l.clos) : PE X (.Lambda l.params l.body l.scope pos) (tLam P pos l) := by
 intro pins s σ H Q I h
 obtain ⟨tab, k⟩ := h
 refine PySem.W.kla_eval hdef ?_
 have hg : s.heap.Ns mainGlobals X.mg := I.mod.glob.keeps I.bk
 rcases tab with eP | ⟨c', eP, oc, vs, t, e1, e2, e3⟩
 ·have hP : H P ≠ none := by rw [eP]; simp
  refine PySem.W.kla_makeFunction (mg := X.mg) hcl I.ok.glob hg hcode (C.keeps I.bk) (tbl_at I eP) trivial rfl (glob_ne I hP) (B.at I hP) fun c' ctv h' tk hx hge hlt hrec htb => ?_
  obtain ⟨c2, oc, vs, t, e2, hoc, hd, hv⟩ := hrec
  cases e2
  have htb' : h'.get? P = some (PySem.W.tabObj (#[] ++ #[rawInt pos.line, rawInt pos.col, .ref c'])) := htb
  have J := inv_lamNew (tk := tk) (of := PySem.W.kla_obj "<lambda>" (X.env.qual ++ "<lambda>") l.params l.body l.scope l.clos ((X.mg "__name__").getD .none) c' ctv) I eP hx hge hlt hoc htb' rfl
  have Hc : H c' = none := I.hok.fresh hge
  have Hf : H h'.objs.size = none := I.hok.fresh (Nat.le_of_lt (Nat.lt_of_le_of_lt hge hlt))
  have ncf : c' ≠ h'.objs.size := Nat.ne_of_lt hlt
  refine ⟨.ref h'.objs.size, _, J, rfl, k _ _ Hf ⟨c', ctv, ?_, oc, vs, t, ?_, hd, ?_⟩ (.inr ⟨c', ?_, oc, vs, t, ?_, hd, ?_⟩) fun b o e hb => ?_⟩
  ·rw [upd_same, hq, hpm]
  ·rw [upd_ne ncf, upd_same]
  ·rw [hq]; exact hv
  ·rw [upd_ne (ne_of_none eP Hf), upd_ne (ne_of_none eP Hc), upd_same]
   simp
  ·rw [upd_ne ncf, upd_same]
  ·rw [hq]; exact hv
  ·rw [upd_ne (ne_of_none e Hf), upd_ne (ne_of_none e Hc), upd_ne hb]
   exact e
 ·have hP : H P ≠ none := by rw [eP]; simp
  refine PySem.W.kla_makeFunctionHit (mg := X.mg) (cv := .ref c') hcl I.ok.glob hg hcode (C.keeps I.bk) (tbl_at I eP) trivial ?_ (B.at I hP) fun ctv h' tk hk hsz => ?_
  ·show (if (_ == _ && _ == _) = true then some (Value.ref c') else _) = _
   rw [if_pos (by simp)]
  ·have Hf : H h'.objs.size = none := I.hok.fresh hsz
   refine ⟨.ref h'.objs.size, upd H h'.objs.size (Ex h'.objs.size _), I.laid (a := h'.objs.size) (fun b u q => Heap.get?_push_of_some _ (hk b u q)) hsz (Ex.ok (Heap.get?_push_size _ rfl)), rfl, k _ _ Hf ⟨c', ctv, ?_, oc, vs, t, ?_, e2, e3⟩ (.inr ⟨c', ?_, oc, vs, t, ?_, e2, e3⟩) fun b o e _ => ?_⟩
   ·rw [upd_same, hq, hpm]
   ·rw [upd_ne (ne_of_none e1 Hf)]; exact e1
   ·rw [upd_ne (ne_of_none eP Hf)]; exact eP
   ·rw [upd_ne (ne_of_none e1 Hf)]; exact e1
   ·rw [upd_ne (ne_of_none e Hf)]; exact e
end
end RA
end
section
namespace RA
open PySem PySem.Spec PyProof.Rows L2
def lamCx (X : Cx) (s : Shared) (H : Hp) (N : List Str) (env : Env) : Cx where
 prog := X.prog
 w := X.w
 K := X.K
 mg := X.mg
 base := X.base
 A := X.A.deeper env
 N := N
 s_0 := s
 H_0 := H
 env := env
 outer := X.stack
 stack := env :: X.stack
 ex := []
 fn := fun _ => false
 calm := true
 pn := []
 xe := fun _ _ => False
def Sub (Hm H : Hp) : Prop := ∀ b, Hm b = H b \/ (Hm b = none /\ ∃ o, H b = some (Ex b o))
theorem Sub.refl (H : Hp) : Sub H H := fun _ => .inl rfl
theorem Sub.del {H : Hp} {a : Addr} {o : Obj} (h : H a = some (Ex a o)) : Sub (del H a) H := fun b => by
 by_cases e : b = a
 ·subst e
  exact .inr ⟨del_same, o, h⟩
 ·exact .inl (del_ne e)
theorem Sub.none {Hm H : Hp} (x : Sub Hm H) {b : Addr} (h : H b = none) : Hm b = none := by
 rcases x b with e | ⟨e, _⟩
 ·rw [e, h]
 ·exact e
theorem Sub.up {Hm H : Hp} (x : Sub Hm H) {b : Addr} {u : HO} (h : Hm b = some u) : H b = some u := by
 rcases x b with e | ⟨e, _⟩
 ·rw [<- e, h]
 ·rw [e] at h
  cases h
theorem Sub.down {Hm H : Hp} (x : Sub Hm H) {b : Addr} {u : HO} (h : H b = some u) (n : ∀ o, u ≠ Ex b o) : Hm b = some u := by
 rcases x b with e | ⟨e, o, z⟩
 ·rw [e, h]
 ·rw [h] at z
  cases z
  exact absurd rfl (n o)
theorem Sub.ok {Hm H : Hp} {P : Program} {w : World} {h : Heap} (x : Sub Hm H) (ok : HOk P w H h) : HOk P w Hm h := fun b u e =>
 (ok b u (x.up e)).stay (fun _ _ _ q => q) (fun c q => x.down q (by intro o z; cases z)) fun c xs q => x.down q (by intro o z; cases z)
section
variable {X : Cx} {pins : List (Addr × Obj)} {σ σ0 : L2.St} {H Hm : Hp} {s : Shared} {f p : Addr} {l : Lam} {N : List Str} {Q : VK} {t : TE}
theorem lam_gen (I : Inv X pins σ H s) (hr : Room 1 X.A) (sub : Sub Hm H) (L : LamV H f l)
  (hbind : ∀ cdv ct, bindArgs (PySem.W.kla_fn "<lambda>" l.qual l.params l.body l.scope l.clos l.pm cdv ct) ⟨[.ref p], []⟩ = pure [(("part" : Str), Value.ref p)])
  (hco : l.scope.isCoroutine = false) (hgen : l.scope.isGenerator = false) (hk : l.scope.kind = .function) (hcell : ∀ x ∈ l.scope.names, x.2 ≠ .cell) (hloc : l.scope.names.lookup ("part" : Str) = some .local)
  (hσ : ∀ (i : Nat) (x : Str) (v : V), N[i]? = some x -> σ0[i]? = some (some v) -> Vis l.scope x -> (x = "part" /\ v = .ref p) \/ (l.scope.names.lookup x = some .free /\ ∃ c u, l.clos.lookup x = some c /\ RelV v u /\ s.heap.IsCell c (some u)))
  (hlen : σ0.length = N.length) (hclos : ∀ x c, l.clos.lookup x = some c -> Hm c = none /\ ∃ v, s.heap.IsCell c v) (hinj : ∀ x y c, l.clos.lookup x = some c -> l.clos.lookup y = some c -> x = y)
  (hfree : ∀ x, l.scope.names.lookup x = some .free -> ∃ c, l.clos.lookup x = some c)
  (hbody : ∀ c, PE (lamCx X s Hm N (PySem.W.envX l.qual l.scope s.heap.objs.size f (.ref c) l.clos)) l.body t) (ht : t σ0 Hm fun v H2 => H2 = Hm /\ Q v H) :
  wpAny (model X.prog X.w) X.A (call (.ref f) [.ref p]) (EP X pins σ Q) X.xe s := by
 obtain ⟨c, ctv, e1, oc, vs, tq, e2, e3, e4⟩ := L
 have of := Ex.get I.hok e1
 have ofc := Ex.get I.hok e2
 have hc : s.heap.CodeRec (.ref c) l.qual := ⟨c, oc, vs, tq, rfl, ofc, e3, e4⟩
 refine wpAny_call (codeAny_mono (R := fun r s' => match r with | .ok (.ret u) => CE X.stack X.prog X.w H s Q u s' | .ok _ => False | .error _ => False) ?_ fun r s' hq => ?_)
 ·refine PySem.W.kla_callFunE hr.depth of rfl hco hgen rfl hc ?_
  rw [hbind]
  refine wpAny_pure (wpAny_newFunctionEnv hcell (fun x hx => ?_) (fun h1 hns hsb => ?_) hk)
  ·simp at hx
   rw [hx]
   exact hloc
  have hk1 : ∀ b o, s.heap.get? b = some o -> h1.get? b = some o := fun b o e => hsb.extBut b o (Nat.ne_of_lt (Heap.lt_size e)) (Heap.get?_push_of_some _ e)
  refine ⟨I.nolimit.keeps hk1, ?_⟩
  show codeAny _ _ (.expr l.body (PySem.W.envX l.qual l.scope s.heap.objs.size f (.ref c) l.clos)) _ _
  refine PySem.W.kla_codeExpr ?_
  have okm := sub.ok I.hok
  have J : Inv (lamCx X s Hm N (PySem.W.envX l.qual l.scope s.heap.objs.size f (.ref c) l.clos)) [] σ0 Hm { s with heap := h1, toks := s.toks + 1 } := by
   have e0 := I.env0
   have noA : ∀ b : Addr, b ∉ (lamCx X s Hm N (PySem.W.envX l.qual l.scope s.heap.objs.size f (.ref c) l.clos)).ex := fun b z => absurd (show b ∈ ([] : List Addr) from z) (by simp)
   refine ⟨⟨e0.mod, hk, rfl, rfl, Nat.le_refl _, hinj, fun y hy => ?_, fun y cc z => ?_, fun _ => hr.hd, Around.frames_deeper e0.frames, .inr ⟨rfl, rfl⟩, fun b z => absurd z (noA b), fun b o e => ⟨(e0.bs b o e).1, sub.none (e0.bs b o e).2⟩, e0.bsz, fun b _ _ => noA b, fun b z => absurd z (noA b), e0.funs, fun b hb => sub.none (e0.frf b hb)⟩,
    rfl, e0.bare, Un.kept hk1, ⟨_, hns, fun i y v h1' h2 h3 => ?_⟩, fun y cc z => ?_, okm.fresh (Nat.le_refl _), fun y cc z => (hclos y cc z).1, fun q hq => absurd (show q ∈ ([] : List (Addr × Obj)) from hq) (by simp), okm.kept hk1, hlen⟩
   ·have hy : l.scope.names.lookup y = some .cell \/ l.scope.names.lookup y = some .free := hy
    rcases hy with hy | hy
    ·exact absurd rfl (hcell _ (PySem.mem_of_lookup hy))
    ·exact hfree y hy
   ·cases (show false = true from z)
   ·rcases hσ i y v h1' h2 h3 with ⟨rfl, rfl⟩ | ⟨hf, cc, u, g1, g2, o, g3, g4⟩
    ·exact ⟨.ref p, rfl, .inl ⟨hloc, by simp⟩⟩
    ·exact ⟨u, g2, .inr ⟨.inr hf, cc, g1, o, hk1 _ _ g3, g4⟩⟩
   ·obtain ⟨v, o, g3, g4⟩ := (hclos y cc z).2
    exact ⟨v, o, hk1 _ _ g3, g4⟩
  refine wpAny_mono (hbody c [] _ σ0 Hm _ J ht) (fun u s2 hq => ?_) fun e s2 hq => hq.elim
  obtain ⟨v, H2, J2, rv, rfl, q⟩ := hq
  refine ⟨v, H, J2.os, J2.bare, ⟨fun b o e n hb _ => J2.base.keep b o e (sub.none n) hb (noEx b), fun b o e n hb _ => J2.base.slot b o e (sub.none n) hb (noEx b), fun b o e n _ => n, fun b o e _ => J2.base.there b o e (noEx b), fun _ _ e => e, fun _ _ _ e => e, fun b ps e => ⟨#[], by rw [e]; simp⟩⟩, fun b u e => ?_, rv, q⟩
  rcases sub b with z | ⟨z, o, z2⟩
  ·refine (J2.hok b u (by rw [z]; exact e)).stay (fun _ _ _ q => q) (fun d q => sub.up q) fun d xs q => sub.up q
  ·rw [e] at z2
   cases z2
   refine Ex.ok (J2.base.keep b o (Ex.get I.hok e) z (fun hb => ?_) (noEx b))
   have := I.stkFree b hb
   rw [e] at this
   cases this
 ·cases r with
  | error e => exact False.elim hq
  | ok fl =>
   cases fl with
   | ret u => exact I.after hq
   | next => exact False.elim hq
   | brk => exact False.elim hq
   | cont => exact False.elim hq
where noEx {X : Cx} {s : Shared} {H : Hp} {N : List Str} {env : Env} (b : Addr) : b ∉ (lamCx X s H N env).ex := fun z => absurd (show b ∈ ([] : List Addr) from z) (by simp)
end
end RA
end
section
namespace RA
open PySem PySem.Spec PyProof.Rows L2
section
variable {prog : Program} {w : World} {A : Around} {E : Value -> Shared -> Prop} {s : Shared} {d : Addr} {od : Obj} {es : Array DictEntry} {ep : Nat}
theorem walks_keys (hdd : od.data = .dict es ep) (hh : A.handled = none) (I : Addr) (hne : d ≠ I) : Walks prog w A I [I, d] [I] es.size (fun i v => ∃ en, es[i]? = some en /\ v = en.key) (fun i h => h.IsKeyIter I d i es.size ep /\ h.get? d = some od) where
 sub := fun b hb => by
  rw [List.mem_singleton] at hb
  simp [hb]
 frame := fun _ _ _ st hk => ⟨let ⟨o, e, r⟩ := st.1; ⟨o, hk I (by simp) o e, r⟩, hk d (by simp) _ st.2⟩
 item := fun i s Q E hi st hQ => by
  refine next_key_item st.1 st.2 hdd rfl (Array.getElem?_eq_getElem hi) fun h' hit' hs' => ?_
  exact hQ es[i].key h' s.toks ⟨_, Array.getElem?_eq_getElem hi, rfl⟩ ⟨hit', hs'.extBut d od hne st.2⟩ fun b o hb e => hs'.extBut b o (fun z => hb (by rw [z]; simp)) e
 done := fun s Q E st hQ => next_key_end hh st.1 st.2 hdd rfl (Nat.le_refl _) fun h' he' => hQ h' s.toks fun b o hb e => he' b o (fun z => hb (by rw [z]; simp)) e
 self := fun _ _ _ _ st hQ => wpAny_pyIter_keyiter st.1 hQ
theorem src_dict (hx : od.ExactDict) (hdd : od.data = .dict es ep) (lo : (d == sysModules) = false) : PySem.W.KdlSrc prog w "dict" d d es.size (fun i v => ∃ en, es[i]? = some en /\ v = en.key) (fun h => h.get? d = some od) where
 type := fun _ e => ⟨od, e, hx.1⟩
 there := fun _ e => ⟨Heap.lt_size e, Heap.lt_size e⟩
 keep := fun _ _ e hk => hk d (.inl rfl) od e
 notList := by decide
 notTuple := by decide
 hint := fun _ _ _ _ e hq => PySem.W.kdl_hint_dict ⟨od, e, hx.1⟩ hq
 iter := fun _ _ hh e => ⟨_, _, (fun _ _ hq => iter_keys lo e hx hdd hq), walks_keys hdd hh _ (Nat.ne_of_lt (Heap.lt_size e)), ⟨_, Heap.get?_push_size _ rfl, rfl, rfl⟩, Heap.get?_push_of_some _ e⟩
end
inductive KeysV (H : Hp) : List (List Key × V) -> List V -> Prop
 | nil : KeysV H [] []
 | cons {k : List Key} {v : V} {r : Addr} {kvs : List (List Key × V)} {vs : List V} : H r = some (.tup (k.map kV)) -> KeysV H kvs vs -> KeysV H ((k, v) :: kvs) (.ref r :: vs)
theorem KeysV.of {H : Hp} : ∀ {kvs : List (List Key × V)} {xs : List (List Key × Addr × Value)}, KT H kvs xs -> KeysV H kvs (xs.map fun x => V.ref x.2.1)
 | _, _, .nil => .nil
 | (k, v) :: kvs, _, .cons h t => .cons h.2.1 (KeysV.of t)
theorem keys_vals : ∀ (xs : List (List Key × Addr × Value)), Vals (xs.map fun x => V.ref x.2.1) (xs.map fun x => Value.ref x.2.1)
 | [] => .nil
 | _ :: xs => .cons rfl (keys_vals xs)
theorem call_listDT {X : Cx} (hcalm : X.calm = true) : CallR X (.type "list") (fun xs H Q => ∃ a kvs, xs = [V.ref a] /\ H a = some (.dT kvs) /\ ∀ l ys, H l = none -> KeysV H kvs ys -> Q (.ref l) (upd H l (.lst ys))) := by
 intro pins s σ H xs us Q I r q
 obtain ⟨a, kvs, ex, ha, q⟩ := q
 subst ex
 obtain ⟨u, eu, rx⟩ := vals1 r
 subst eu
 cases rx
 obtain ⟨hz, hm, xs, rel, o, es, ep, h1, h2, h3, h4, h5⟩ := (show ObjOk X.prog X.w H s.heap a (.dT kvs) from I.hok a _ ha)
 have hsz : es.size = kvs.length := by rw [<- Array.length_toList, h4, List.length_map, Paired.length rel]
 refine PySem.W.kdl_call (src_dict h2 h3 hm) (I.ok.hd hcalm) h1 (by rw [hsz]; exact hz) fun h' tk acc c' kp hS hit => ?_
 have hacc : acc.toList = xs.map fun x => Value.ref x.2.1 := by
  apply List.ext_getElem?
  intro j
  by_cases hj : j < xs.length
  ·have hj2 : j < acc.size := by rw [hit.1, hsz, Paired.length rel]; exact hj
   obtain ⟨en, e1, e2⟩ := hit.2 j acc[j] (Array.getElem?_eq_getElem hj2)
   rw [Array.getElem?_toList, Array.getElem?_eq_getElem hj2, e2, List.getElem?_map, List.getElem?_eq_getElem hj]
   rw [<- Array.getElem?_toList, h4, List.getElem?_map, List.getElem?_eq_getElem hj] at e1
   cases e1
   rfl
  ·rw [List.getElem?_eq_none (by rw [Array.length_toList, hit.1, hsz, Paired.length rel]; omega), List.getElem?_eq_none (by rw [List.length_map]; omega)]
 refine ⟨.ref s.heap.objs.size, upd H s.heap.objs.size (.lst (xs.map fun x => V.ref x.2.1)), I.laid (t' := tk) kp (Nat.le_refl _) ⟨by rw [List.length_map, <- Paired.length rel]; exact hz, xs.map (fun x => Value.ref x.2.1), c', keys_vals xs, ?_⟩, rfl, q _ _ (I.hok.fresh (Nat.le_refl _)) (KeysV.of rel)⟩
 rw [hS, <- hacc]
abbrev TK := List Key × Addr × Value
def mergedH (acc rest : List TK) : List TK := rest.foldl (fun a x => storedH a x.1 x.2.1 x.2.2) acc
theorem storedH_le (xs : List TK) (k : List Key) (a : Addr) (v : Value) : (storedH xs k a v).length <= xs.length + 1 := by
 unfold storedH
 split
 ·rw [List.length_map]; omega
 ·rw [List.length_append]; exact Nat.le_refl _
section
variable {prog : Program} {w : World} {A : Around} {E : Value -> Shared -> Prop}
theorem is_keeps {h h' : Heap} {k : List Key} {a x : Addr} (q : (tupleKind (mixKind prog w)).is h k a) (hx : a ≠ x) (he : Heap.ExtBut x h h') : (tupleKind (mixKind prog w)).is h' k a := by
 obtain ⟨o, items, n, h1, h2⟩ := q
 exact ⟨o, items, n, he a o hx h1, h2⟩
theorem dict_keeps {h h' : Heap} {d x : Addr} {xs : List TK} (q : h.DictOfH (tupleKind (mixKind prog w)) d xs) (hd : d ≠ x) (hk : ∀ y ∈ xs, y.2.1 ≠ x) (he : Heap.ExtBut x h h') : h'.DictOfH (tupleKind (mixKind prog w)) d xs := by
 obtain ⟨o, es, ep, h1, h2, h3, h4, h5, h6⟩ := q
 exact ⟨o, es, ep, he d o hd h1, h2, h3, h4, fun y hy => is_keeps (h5 y hy) (hk y hy) he, h6⟩
theorem storedH_mem {xs : List TK} {k : List Key} {a : Addr} {v : Value} {y : TK} (h : y ∈ storedH xs k a v) : y.2.1 = a \/ ∃ z ∈ xs, z.2.1 = y.2.1 := by
 unfold storedH at h
 split at h
 ·obtain ⟨z, hz, e⟩ := List.mem_map.mp h
  refine .inr ⟨z, hz, ?_⟩
  unfold putAt at e
  split at e <;> rw [<- e]
 ·rcases List.mem_append.mp h with h | h
  ·exact .inr ⟨y, h, rfl⟩
  ·simp at h
   exact .inl (by rw [h])
theorem upd_loopT {R : Result -> Shared -> Prop} {S I l : Addr} {items : Array Value} {res : Value} (hu : A.units + 1 < cLine) (hh : A.handled = none) (hlI : l ≠ I) (hSI : S ≠ I) (hSl : S ≠ l) :
  ∀ (rest : List TK) (i : Nat) (acc : List TK) (ix : Int) (t : Tok) (s : Shared), items.size = i + rest.length -> acc.length + rest.length <= sizeLine -> (∀ y ∈ acc, y.2.1 ≠ I) ->
   (∀ (j : Nat) (q : TK), rest[j]? = some q -> ∃ (b : Addr), items[i + j]? = some (.ref b) /\ b ≠ S /\ b ≠ I /\ q.2.1 ≠ S /\ q.2.1 ≠ I /\ IsTup s.heap b #[.ref q.2.1, q.2.2] /\ (tupleKind (mixKind prog w)).is s.heap q.1 q.2.1) ->
   s.heap.IsListIter I l i -> s.heap.IsList l items -> s.heap.DictOfH (tupleKind (mixKind prog w)) S acc ->
   (∀ h' tk, h'.DictOfH (tupleKind (mixKind prog w)) S (mergedH acc rest) -> (∀ b o, b ≠ S -> b ≠ I -> s.heap.get? b = some o -> h'.get? b = some o) -> R (.ok (.ret res)) { s with heap := h', toks := tk }) ->
   codeAny (model prog w) A (.builtin "dict.update.loop" ⟨[.ref S, .ref I, .int ix t, res], []⟩) R s
 | [], i, acc, ix, t, s, hsz, hln, hac, ht, hit, hl, hm, hR => by
  refine codeAny_builtin ud_entry ?_
  rw [Around.under_plainId ud_plain _]
  show wpAny _ A.in1 (pyNext (.ref I) >>= _) _ _ s
  refine wpAny_bind (wpAny_pyNext_list_end (A := A.in1) hh hit hl (Array.getElem?_eq_none (Nat.le_of_eq hsz)) fun h' he => ?_)
  show wpAny _ A.in1 (Builtin.Dict.addKeywords S [] >>= _) _ _ _
  refine wpAny_bind (wpAny_pure (wpAny_pure ?_))
  exact hR h' s.toks (dict_keeps hm hSI hac he) fun b o _ hb e => he b o hb e
 | q :: rest, i, acc, ix, t, s, hsz, hln, hac, ht, hit, hl, hm, hR => by
  obtain ⟨b, hb, hbS, hbI, hqS, hqI, htup, hk⟩ := ht 0 q rfl
  rw [List.length_cons] at hsz hln
  refine codeAny_builtin ud_entry ?_
  rw [Around.under_plainId ud_plain _]
  show wpAny _ A.in1 (pyNext (.ref I) >>= _) _ _ s
  refine wpAny_bind (wpAny_pyNext_list_item (x := .ref b) hit hl (by simpa using hb) fun h1 hit1 hs1 => ?_)
  have ht1 : IsTup h1 b #[.ref q.2.1, q.2.2] := htup.extBut hs1.extBut hbI
  have hl1 : h1.IsList l items := hl.extBut hs1.extBut hlI
  have hm1 : h1.DictOfH (tupleKind (mixKind prog w)) S acc := dict_keeps hm hSI hac hs1.extBut
  have hk1 := is_keeps hk hqI hs1.extBut
  obtain ⟨o, ho, hc, n, hd⟩ := id ht1
  show wpAny _ A.in1 (holding [Value.ref b] _ >>= _) _ _ _
  refine wpAny_bind (wpAny_holding ?_)
  refine wpAny_bind (wpAny_tryCatch ?_)
  unfold Builtin.Dict.pairItems
  refine wpAny_bind (wpAny_typeOf (T := "tuple") ⟨o, ho, hc⟩ ?_)
  rw [if_pos (by first | decide | rfl | simp)]
  refine wpAny_bind (wpAny_seqItems ho hd (wpAny_pure ?_))
  show wpAny _ A.in1 (holding [Value.ref q.2.1, q.2.2] (dictSet S (.ref q.2.1) q.2.2)) _ _ _
  refine wpAny_holding (wpAny_dictSet_heap (knd := tupleKind (mixKind prog w)) (tupleKind_room_in1 hu) hk1 hm1 (fun h2 hm2 hs2 => ?_) (by omega))
  refine wpAny_pure ⟨plainId_quiet ud_plain _, upd_loopT (items := items) hu hh hlI hSI hSl rest (i + 1) (storedH acc q.1 q.2.1 q.2.2) (ix + 1) 0 _ (show items.size = i + 1 + rest.length by omega) ?_ (fun y hy => ?_) (fun j q' e => ?_) ?_ ?_ hm2 fun h' tk hd' k => ?_⟩
  ·have z := storedH_le acc q.1 q.2.1 q.2.2
   omega
  ·rcases storedH_mem hy with z | ⟨z, hz, ez⟩
   ·rw [z]; exact hqI
   ·rw [<- ez]; exact hac z hz
  ·obtain ⟨b', hb', hbS', hbI', hqS', hqI', htup', hk'⟩ := ht (j + 1) q' (by simpa using e)
   refine ⟨b', ?_, hbS', hbI', hqS', hqI', (htup'.extBut hs1.extBut hbI').extBut hs2.extBut hbS', is_keeps (is_keeps hk' hqI' hs1.extBut) hqS' hs2.extBut⟩
   rw [show i + 1 + j = i + (j + 1) by omega]
   exact hb'
  ·exact hit1.at fun o' e => hs2.extBut I o' (Ne.symm hSI) e
  ·exact hl1.extBut hs2.extBut (Ne.symm hSl)
  ·exact hR h' tk hd' fun c oc h3 h4 e => k c oc h3 h4 (hs2.extBut c oc h3 (hs1.extBut c oc h4 e))
theorem call_dict_pairsT {s : Shared} {l : Addr} {ol : Obj} {items : Array Value} {n : Nat} {prs : List TK} {Q : Value -> Shared -> Prop} (hu : A.units + 2 < cLine) (hh : A.handled = none) (hl : s.heap.get? l = some ol) (hc : ol.cls = .type "list") (hd : ol.dict = none)
  (hdat : ol.data = .seq items n) (hsz : items.size = prs.length) (hln : prs.length <= sizeLine)
  (ht : ∀ (j : Nat) (q : TK), prs[j]? = some q -> ∃ (b : Addr), items[j]? = some (.ref b) /\ IsTup s.heap b #[.ref q.2.1, q.2.2] /\ (tupleKind (mixKind prog w)).is s.heap q.1 q.2.1)
  (h : ∀ h' tk, h'.DictOfH (tupleKind (mixKind prog w)) s.heap.objs.size (mergedH [] prs) -> (∀ b o, s.heap.get? b = some o -> h'.get? b = some o) -> Q (.ref s.heap.objs.size) { s with heap := h', toks := tk }) :
  wpAny (model prog w) A (call (.type "dict") [.ref l]) Q E s := by
 refine callType_codes (Q₁ := fun obj s₁ => obj = .ref s.heap.objs.size /\ s₁ = { s with heap := s.heap.push { cls := .type "dict", data := .dict #[] } }) PySem.F.kt_called_dict (PySem.F.kt_typeCall_dict_1 _) PySem.F.entry_dict_init (kt_code_dict_new _ ⟨rfl, rfl⟩) ?_
 rintro obj s₁ ⟨rfl, rfl⟩
 have hnew : (s.heap.push { cls := .type "dict", data := .dict #[] }).DictOfH (tupleKind (mixKind prog w)) s.heap.objs.size [] := Heap.DictOfH.new s.heap
 have k0 : ∀ b o, s.heap.get? b = some o -> (s.heap.push { cls := .type "dict", data := .dict #[] }).get? b = some o := fun b o e => Heap.get?_push_of_some _ e
 refine ⟨hnew.typeIs, PySem.F.args_dict_init_2 _ _, ?_⟩
 unfold Builtin.«dict.__init__»
 refine wpAny_bind ?_
 unfold Builtin.Dict.selfAndRest
 refine wpAny_bind (wpAny_notOrdered_dict hnew.typeIs ?_)
 show wpAny _ _ (pure (s.heap.objs.size, [Value.ref l])) _ _ _
 refine wpAny_pure ?_
 show wpAny _ _ (Builtin.Dict.updateFrom "dict.__init__" s.heap.objs.size (.ref l) [] .none) _ _ _
 unfold Builtin.Dict.updateFrom
 refine wpAny_bind (wpAny_typeOf (T := "list") ⟨ol, k0 _ _ hl, hc⟩ ?_)
 rw [if_pos (by first | decide | rfl | simp)]
 refine wpAny_bind (miss_list (k0 _ _ hl) hc hdat hd hh fun h1 tk1 hk1 => ?_)
 rw [if_pos (show (none : Option Value).isNone = true from rfl)]
 refine wpAny_bind (wpAny_rule ?_)
 have hl1 : h1.IsList l items := ⟨ol, hk1 _ _ (k0 _ _ hl), hc, n, hdat⟩
 have hS1 : s.heap.objs.size < h1.objs.size := by
  have e : (s.heap.push { cls := .type "dict", data := .dict #[] }).get? s.heap.objs.size = some { cls := .type "dict", data := .dict #[] } := Heap.get?_push_size _ rfl
  exact Heap.lt_size (hk1 _ _ e)
 refine wpAny_bind (wpAny_pyIter_list hl1 ?_)
 have k2 : ∀ b o, h1.get? b = some o -> (h1.push { cls := .type "list_iterator", data := .fields #[.ref l, .int 0 0] }).get? b = some o := fun b o e => Heap.get?_push_of_some _ e
 have hlt : l < s.heap.objs.size := Heap.lt_size hl
 have key := upd_loopT (prog := prog) (w := w) (A := A.in1) (R := wants (fun r s₂ => r = .none /\ Q (.ref s.heap.objs.size) s₂) E) (S := s.heap.objs.size) (I := h1.objs.size) (l := l) (items := items) (res := Value.none) (by show A.units + 1 + 1 < cLine; exact hu) hh
  (Nat.ne_of_lt (Nat.lt_trans hlt hS1)) (Nat.ne_of_lt hS1) (Nat.ne_of_gt hlt) prs 0 [] 0 0
  { s with heap := h1.push { cls := .type "list_iterator", data := .fields #[.ref l, .int 0 0] }, toks := tk1 } (by rw [hsz, Nat.zero_add]) (by rw [List.length_nil, Nat.zero_add]; exact hln) (fun y hy => by cases hy)
  (fun j q e => by
   obtain ⟨b, e1, e2, e3⟩ := ht j q e
   have hb : b < s.heap.objs.size := e2.lt
   have hq : q.2.1 < s.heap.objs.size := by
    obtain ⟨o, _, _, e, _⟩ := e3
    exact Heap.lt_size e
   refine ⟨b, by rw [Nat.zero_add]; exact e1, Nat.ne_of_lt hb, Nat.ne_of_lt (Nat.lt_trans hb hS1), Nat.ne_of_lt hq, Nat.ne_of_lt (Nat.lt_trans hq hS1), e2.keeps fun c o z => k2 _ _ (hk1 _ _ (k0 _ _ z)), ?_⟩
   obtain ⟨o, its, n, e, r⟩ := e3
   exact ⟨o, its, n, k2 _ _ (hk1 _ _ (k0 _ _ e)), r⟩)
  ⟨_, Heap.get?_push_size _ rfl, rfl, rfl⟩ (hl1.at fun o e => k2 _ _ e) (by
   obtain ⟨o, es, ep, g1, g2, g3, g4, g5, g6⟩ := hnew
   exact ⟨o, es, ep, k2 _ _ (hk1 _ _ g1), g2, g3, g4, (fun x hx => absurd hx List.not_mem_nil), g6⟩)
  (fun h' tk hd' k => ⟨rfl, h h' tk hd' fun b o e => k b o (Nat.ne_of_lt (Heap.lt_size e)) (Nat.ne_of_lt (Nat.lt_trans (Heap.lt_size e) hS1)) (k2 _ _ (hk1 _ _ (k0 _ _ e)))⟩)
 first
  | exact wpAny_pure ⟨plainId_quiet ud_plain _, key⟩
  | exact wpAny_bind (wpAny_pure (wpAny_pure ⟨plainId_quiet ud_plain _, key⟩))
end
theorem KT.merge {H : Hp} : ∀ {prs : List (List Key × Addr × V)} {rest : List TK} {kvs : List (List Key × V)} {xs : List TK}, Paired (fun (p : List Key × Addr × V) (q : TK) => p.1 = q.1 /\ p.2.1 = q.2.1 /\ H p.2.1 = some (.tup (p.1.map kV)) /\ RelV p.2.2 q.2.2) prs rest -> KT H kvs xs ->
  KT H (prs.foldl (fun a p => putK a p.1 p.2.2) kvs) (mergedH xs rest)
 | _, _, _, _, .nil, r => r
 | p :: prs, q :: rest, kvs, xs, .cons h t, r => by
  obtain ⟨h1, h2, h3, h4⟩ := h
  show KT H (prs.foldl _ (putK kvs p.1 p.2.2)) (mergedH (storedH xs q.1 q.2.1 q.2.2) rest)
  refine KT.merge t ?_
  rw [<- h1, <- h2]
  exact r.put p.1 h3 h4
def mergeT (prs : List (List Key × Addr × V)) : List (List Key × V) := prs.foldl (fun a p => putK a p.1 p.2.2) []
theorem mergeT_le : ∀ (prs : List (List Key × Addr × V)) (kvs : List (List Key × V)), (prs.foldl (fun a p => putK a p.1 p.2.2) kvs).length <= kvs.length + prs.length
 | [], _ => Nat.le_refl _
 | p :: prs, kvs => by
  have := mergeT_le prs (putK kvs p.1 p.2.2)
  have := length_putK kvs p.1 p.2.2
  rw [List.foldl_cons, List.length_cons]
  omega
section
variable {X : Cx}
theorem pairs_ofT {pins : List (Addr × Obj)} {σ : L2.St} {H : Hp} {s : Shared} (I : Inv X pins σ H s) : ∀ {ps : List Addr} {prs : List (List Key × Addr × V)}, Paired (fun p q => SqT X.K H p [.ref q.2.1, q.2.2] /\ H q.2.1 = some (.tup (q.1.map kV))) ps prs ->
  ∃ rest : List TK, Paired (fun (p : List Key × Addr × V) (q : TK) => p.1 = q.1 /\ p.2.1 = q.2.1 /\ H p.2.1 = some (.tup (p.1.map kV)) /\ RelV p.2.2 q.2.2) prs rest /\ rest.length = ps.length /\
   ∀ (j : Nat) (q : TK), rest[j]? = some q -> ∃ (b : Addr), ps[j]? = some b /\ IsTup s.heap b #[.ref q.2.1, q.2.2] /\ (tupleKind (mixKind X.prog X.w)).is s.heap q.1 q.2.1
 | _, _, .nil => ⟨[], .nil, rfl, fun j q e => by simp at e⟩
 | _, _, .cons (a := p) (b := q) h t => by
  obtain ⟨rest, r, hl, hp⟩ := pairs_ofT I t
  obtain ⟨its, rv, ht, _⟩ := I.tuple h.1
  obtain ⟨u, y, ei, ru, ry⟩ := vals2 rv
  subst ei
  cases ru
  refine ⟨(q.1, q.2.1, y) :: rest, .cons ⟨rfl, rfl, h.2, ry⟩ r, by rw [List.length_cons, List.length_cons, hl], fun j z e => ?_⟩
  cases j with
  | zero =>
   have e' : (q.1, q.2.1, y) = z := Option.some.inj e
   subst e'
   exact ⟨p, rfl, ht, key_of I.hok h.2⟩
  | succ j =>
   obtain ⟨b, e1, e2, e3⟩ := hp j z (by simpa using e)
   exact ⟨b, by simpa using e1, e2, e3⟩
theorem call_dictT (hu : X.A.units + 2 < cLine) (hcalm : X.calm = true) : CallR X (.type "dict") (fun xs H Q => ∃ (a : Addr) (ps : List Addr) (prs : List (List Key × Addr × V)), xs = [.ref a] /\ SqL X.K H a (ps.map V.ref) /\
  Paired (fun p q => SqT X.K H p [.ref q.2.1, q.2.2] /\ H q.2.1 = some (.tup (q.1.map kV))) ps prs /\ ∀ p, H p = none -> Q (.ref p) (upd H p (.dT (mergeT prs)))) := by
 intro pins s σ H xs us Q I r q
 obtain ⟨a, ps, prs, ex, hq, hp, q⟩ := q
 subst ex
 obtain ⟨u, eu, rx⟩ := vals1 r
 subst eu
 cases rx
 obtain ⟨its, rv, pl, hz⟩ := I.list hq
 have ei := refs_at rv
 subst ei
 rw [List.length_map] at hz
 obtain ⟨rest, rel, hl, hpr⟩ := pairs_ofT I hp
 obtain ⟨o, n, ho, hc, hd, hdat⟩ := pl
 refine call_dict_pairsT (prs := rest) hu (I.ok.hd hcalm) ho hc hd hdat (by simp [hl]) (by rw [hl]; exact hz) (fun j q' e => ?_) fun h' tk hd' k => ?_
 ·obtain ⟨b, e1, e2, e3⟩ := hpr j q' e
  exact ⟨b, by simp [e1], e2, e3⟩
 ·have hm : (s.heap.objs.size == sysModules) = false := beq_eq_false_iff_ne.mpr (Nat.ne_of_gt I.big)
  have hf : H s.heap.objs.size = none := I.hok.fresh (Nat.le_refl _)
  have hlen : (mergeT prs).length <= sizeLine := by
   refine Nat.le_trans (mergeT_le prs []) ?_
   rw [List.length_nil, Nat.zero_add, Paired.length rel, hl]
   exact hz
  obtain ⟨ob, es, ep, g1, g2, g3, g4, _, g6⟩ := hd'
  refine ⟨.ref s.heap.objs.size, upd H s.heap.objs.size (.dT (mergeT prs)), I.laid (t' := tk) k (Nat.le_refl _) ?_, rfl, q _ hf⟩
  refine ⟨hlen, hm, mergedH [] rest, (KT.merge rel .nil).keeps fun c ys ec => ?_, ob, es, ep, g1, g2, g3, g4, g6⟩
  rw [upd_ne (ne_of_none ec hf)]
  exact ec
end
end RA
end
section
namespace RA
open PySem L2
open Rc75 (Row)
def top (i : Nat) : Stmt := PySem.Challenge.pw_readaloud_s01_answers.main.body.getD i (.Pass ⟨0, 0, 0, 0⟩)
abbrev sRuns : Stmt := top 4
abbrev sReadRuns : Stmt := top 5
abbrev sAloud : Stmt := top 6
abbrev sLater : Stmt := top 7
abbrev sBefore : Stmt := top 8
abbrev sMay : Stmt := top 9
def rV (l : Row) : List V := l.map fun (n : Nat) => V.int (n : Int)
theorem rV_length (l : Row) : (rV l).length = l.length := by simp [rV]
theorem rV_get {l : Row} {i d : Nat} (h : l[i]? = some d) : (rV l)[i]? = some (V.int (d : Int)) := by simp [rV, h]
theorem rV_append (a b : Row) : rV (a ++ b) = rV a ++ rV b := by simp [rV]
theorem rV_ints (l : Row) : rV l = (RA.rowI l).map V.int := by simp [rV, rowI]
structure Pairs (H : Hp) (rs : List Addr) (ps : List (Nat × Nat)) : Prop where
 len : rs.length = ps.length
 at_ : ∀ (i : Nat) (a : Addr) (p : Nat × Nat), rs[i]? = some a -> ps[i]? = some p -> H a = some (.tup [.int (p.1 : Int), .int (p.2 : Int)])
theorem Pairs.nil (H : Hp) : Pairs H [] [] := ⟨rfl, fun i a p h => by simp at h⟩
theorem Pairs.same {H H' : Hp} {rs : List Addr} {ps : List (Nat × Nat)} (h : Pairs H rs ps) (k : ∀ a o, a ∈ rs -> H a = some o -> H' a = some o) : Pairs H' rs ps :=
 ⟨h.len, fun i a p h1 h2 => k a _ (List.mem_of_getElem? h1) (h.at_ i a p h1 h2)⟩
theorem Pairs.snoc {H : Hp} {rs : List Addr} {ps : List (Nat × Nat)} {a : Addr} {p : Nat × Nat} (h : Pairs H rs ps) (ha : H a = some (.tup [.int (p.1 : Int), .int (p.2 : Int)])) : Pairs H (rs ++ [a]) (ps ++ [p]) := by
 refine ⟨by simp [h.len], fun i b q h1 h2 => ?_⟩
 by_cases hi : i < rs.length
 ·rw [List.getElem?_append_left hi] at h1
  rw [List.getElem?_append_left (by rw [<- h.len]; exact hi)] at h2
  exact h.at_ i b q h1 h2
 ·rw [List.getElem?_append_right (by omega)] at h1
  rw [List.getElem?_append_right (by rw [<- h.len]; omega), <- h.len] at h2
  by_cases h0 : i - rs.length = 0
  ·rw [h0] at h1 h2
   have e1 : a = b := by simpa using h1
   have e2 : p = q := by simpa using h2
   subst e1 e2
   exact ha
  ·obtain ⟨j, hj⟩ : ∃ j, i - rs.length = j + 1 := ⟨i - rs.length - 1, by omega⟩
   rw [hj] at h1
   simp at h1
theorem Pairs.mem {H : Hp} {rs : List Addr} {ps : List (Nat × Nat)} (h : Pairs H rs ps) {a : Addr} (ha : a ∈ rs) : ∃ xs, H a = some (.tup xs) := by
 obtain ⟨i, hi⟩ := List.mem_iff_getElem?.mp ha
 have hl := (List.getElem?_eq_some_iff.mp hi).1
 rw [h.len] at hl
 exact ⟨_, h.at_ i a _ hi (List.getElem?_eq_getElem hl)⟩
def GI (mg : Str -> Option Value) (x : Str) (n : Int) : Prop := ∃ t, mg x = some (.int n t)
theorem pe_gi {X : Cx} {x : Str} {n : Int} {pos : Pos} (h : GI X.mg x n) (hg : Gl X x := by rfl) (hd : (x == ("__debug__" : Str)) = false := by decide) : PE X (.Name x pos) (tC (.int n)) := by
 obtain ⟨t, e⟩ := h
 exact pe_glob hg e ⟨t, rfl⟩ hd
theorem line_le {n : Nat} (h : n <= 16777216) : n <= sizeLine := h
theorem line_lt {n : Nat} (h : n < 16777216) : n < sizeLine := h
def SqS (K : PySem.W.Frag) (H : Hp) (a : Addr) (xs : List V) : Prop := SqL K H a xs \/ SqT K H a xs
theorem _root_.L2.Same.tup {K : PySem.W.Frag} {H H' : Hp} {a : Addr} {xs : List V} (e : Same H H') (h : SqT K H a xs) : SqT K H' a xs := by
 rcases h with (h | ⟨o, h⟩) | h
 ·exact .inl (.inl (e _ _ h))
 ·exact .inl (.inr ⟨o, e _ _ h⟩)
 ·exact .inr h
theorem _root_.L2.Same.sqs {K : PySem.W.Frag} {H H' : Hp} {a : Addr} {xs : List V} (e : Same H H') (h : SqS K H a xs) : SqS K H' a xs := h.imp e.seq e.tup
theorem rIx_of {K : PySem.W.Frag} {H : Hp} {p : Addr} {xs : List V} {i : Int} {v : V} {Q : VK} (h : SqS K H p xs) (e : atI xs i = some v) (q : Q v H) : rIx K (.ref p) (.int i) H Q :=
 h.elim (fun h => .inl ⟨p, xs, i, v, rfl, rfl, h, e, q⟩) fun h => .inr (.inl ⟨p, xs, i, v, rfl, rfl, h, e, q⟩)
def spRuns (K : PySem.W.Frag) : Sp := fun vs H Q _ => ∃ (a : Addr) (l : Row), vs = [.ref a] /\ SqS K H a (rV l) /\ l.length <= 16777216 /\
 ∀ (F : Addr) (rs : List Addr) (H' : Hp), H F = none -> H' F = some (.lst (rs.map V.ref)) -> Pairs H' rs (Rc75.runs l) -> Same H H' -> Q (.ref F) H'
def spReadRuns (K : PySem.W.Frag) : Sp := fun vs H Q _ => ∃ (a : Addr) (rs : List Addr) (ps : List (Nat × Nat)), vs = [.ref a] /\ SqS K H a (rs.map V.ref) /\ Pairs H rs ps /\ 2 * ps.length <= 16777216 /\
 ∀ (S : Addr) (H' : Hp), H S = none -> H' S = some (.lst (rV (fl ps))) -> Same H H' -> Q (.ref S) H'
def spAloud (K : PySem.W.Frag) : Sp := fun vs H Q _ => ∃ (a : Addr) (l : Row), vs = [.ref a] /\ SqS K H a (rV l) /\ l.length <= 16777216 /\ (Rc75.aloud l).length <= 16777216 /\
 ∀ (S : Addr) (H' : Hp), H S = none -> H' S = some (.lst (rV (Rc75.aloud l))) -> Same H H' -> Q (.ref S) H'
def Short (l : Row) (d : Nat) : Prop := ∀ k, k <= d -> (Rc75.later k l).length <= 65536
def spLater (K : PySem.W.Frag) : Sp := fun vs H Q _ => ∃ (a : Addr) (l : Row) (d : Nat), vs = [.ref a, .int (d : Int)] /\ SqL K H a (rV l) /\ l.length <= 65536 /\ d <= 1000 /\
 (Short l d -> ∀ (S : Addr) (H' : Hp), H S = none -> H' S = some (.lst (rV (Rc75.later d l))) -> Same H H' -> Q (.ref S) H') /\ (¬ Short l d -> ∀ H' : Hp, Same H H' -> Q .non H')
def spBefore (K : PySem.W.Frag) : Sp := fun vs H Q _ => ∃ (a : Addr) (l : Row), vs = [.ref a] /\ SqL K H a (rV l) /\ l.length <= 65536 /\ (∀ x ∈ l, 1 <= x /\ x <= 9) /\
 (∀ t, Rc75.said l = some t -> t.length <= 65536 -> ∀ (S : Addr) (H' : Hp), H S = none -> H' S = some (.lst (rV t)) -> Same H H' -> Q (.ref S) H') /\
 ((∀ t, Rc75.said l = some t -> 65536 < t.length) -> ∀ H' : Hp, Same H H' -> Q .non H')
def spMay (K : PySem.W.Frag) : Sp := fun vs H Q _ => ∃ (a : Addr) (ns : List Int), vs = [.ref a] /\ SqL K H a (ns.map V.int) /\ ns.length <= 40 /\ (∀ z ∈ ns, 0 <= z /\ z < 256) /\
 ∀ H' : Hp, Same H H' -> Q (.bl (decide (1 <= ns.length) && Rc75.plain (Rc75Neutral.natsOf ns))) H'
structure Txt (K : PySem.W.Frag) (mg : Str -> Option Value) : Prop where
 len : mg "len" = none
 range : mg "range" = none
 list : mg "list" = none
 min : mg "min" = none
 max : mg "max" = none
 longest : GI mg "LONGEST" 65536
 mostSet : GI mg "MOST_SET" 256
 highest : GI mg "HIGHEST" 9
structure Def (K : PySem.W.Frag) (mg : Str -> Option Value) (x : Str) (st : Stmt) (f : Addr) (fd : FuncData) (ps : List Str) : Prop where
 F : Fun K x x st f fd
 mg : mg x = some (.ref f)
 b : Binds K fd ps []
section
variable {P : Program} {w : World} {K : PySem.W.Frag} {mg : Str -> Option Value} {base : Heap}
theorem scRuns : FnScope ["row", "found", "start", "place"] ["row"] (defScope sRuns) := ⟨rfl, rfl, rfl, by decide +kernel, rfl, by decide +kernel, by decide +kernel⟩
theorem ok_runs {f : Addr} {fd : FuncData} (D : Def K mg "runs" sRuns f fd ["row"]) (T : Txt K mg) : FnOk P w K mg base CX0 1 f fd ["row"] (spRuns K) := by
 refine D.F.ok scRuns (fun vs H Q E h => ?_) (fun cdv A outer s H vs Q E hr h => ?_)
 ·obtain ⟨a, l, rfl, _⟩ := h
  rfl
 ·obtain ⟨a, l, rfl, hS, hl, k⟩ := h
  refine ⟨_, pss_cons (ps_set (i := 1) scRuns.nd rfl (Or.inl rfl) (pe_lst pa_nil))
   (pss_cons (ps_set (i := 2) scRuns.nd rfl (Or.inl rfl) pe_int)
   (pss_cons (ps_for PassesOwn.never rfl (pi_range2 rfl T.range (pa_cons pe_int (pa_cons (pe_op op_add (pe_callB call_len_seq (by rfl) T.len PySem.boot_len (pa_cons (pv 0) pa_nil)) pe_int) pa_nil))) (pg_name (i := 3) scRuns.nd rfl (Or.inl rfl))
    (pss_one (ps_if (PW.pt (pw_or (pt_cmpR op_eq (pv 3) (pe_callB call_len_seq (by rfl) T.len PySem.boot_len (pa_cons (pv 0) pa_nil)) (nomark _))
      (pw_or1 (pt_cmpR op_ne (pe_ix ix_seq (pv 0) (pv 3) (fun _ _ => rfl)) (pe_ix ix_seq (pv 0) (pv 2) (fun _ _ => rfl)) (nomark _)))))
     (pss_cons (ps_expr (pe_bm PySem.F.plainAttrs_list PySem.F.slot_list_append PySem.F.type_list_append mt_append (pv 1) (pa_cons (pe_tup (pa_cons (pe_op op_sub (pv 3) (pv 2)) (pa_cons (pe_ix ix_seq (pv 0) (pv 2) (fun _ _ => rfl)) pa_nil))) pa_nil)))
      (pss_one (ps_set (i := 2) scRuns.nd rfl (Or.inl rfl) (pv 3))))
     pss_nil)))
   (pss_one (ps_ret (pv 1))))), ?_⟩
  refine ⟨(by show 0 <= sizeLine; decide), fun F hF => ?_⟩
  have s1 : Same H (upd H F (.lst [])) := fun b o e => by rw [upd_ne (ne_of_none e hF)]; exact e
  refine ⟨_, rfl, a, rV l, rfl, s1.sqs hS, _, _, rfl, rfl, 1, _, rfl, ⟨by decide, by decide, by rw [rV_length]; omega, by rw [rV_length]; omega⟩, ?_⟩
  have en : ((((rV l).length : Nat) : Int) + 1 - 1).toNat = l.length := by rw [rV_length]; omega
  rw [en]
  refine for_range (lo := 1) (n := l.length) (fun i σ H2 => ∃ (st : Nat) (rs : List Addr) (v : Option V), σ = [some (.ref a), some (.ref F), some (.int (st : Int)), v] /\ Same H H2 /\ H2 F = some (.lst (rs.map V.ref)) /\ Pairs H2 rs (Rc75.runs (l.take st)) /\ Seg l st i)
   ⟨0, [], none, rfl, s1, upd_same, Pairs.nil _, Seg.zero l⟩ ?_ ?_
  ·rintro i σ H2 hi ⟨st, rs, v, rfl, s2, h2, hp, sg⟩
   have hst := sg.lt hi
   have hq : SqS K H2 a (rV l) := s2.sqs hS
   have gS : l[st]? = some l[st] := List.getElem?_eq_getElem hst
   have eI : (1 : Int) + (i : Int) = ((i + 1 : Nat) : Int) := by omega
   have app : (i + 1 = l.length \/ l[i + 1]? ≠ l[st]?) -> ∀ (D : Ends), (∀ σ' H', (∃ (st : Nat) (rs : List Addr) (v : Option V), σ' = [some (.ref a), some (.ref F), some (.int (st : Int)), v] /\ Same H H' /\ H' F = some (.lst (rs.map V.ref)) /\ Pairs H' rs (Rc75.runs (l.take st)) /\ Seg l st (i + 1)) -> D.nx σ' H') ->
     tSeq (tDrop (tBM K "list" rAppend (tVar 1) (tCons (tTup (tCons (tOp (rI0 fun i j => .int (i - j)) (tVar 3) (tVar 2)) (tCons (tOp (rIx K) (tVar 0) (tVar 2)) tNil))) tNil))) (tAsg (tVar 3) (gName 2)) D [some (.ref a), some (.ref F), some (.int (st : Int)), some (.int (1 + (i : Int)))] H2 := by
    intro hn D kD
    refine ⟨_, rfl, .inl ⟨rfl, _, SqL.of h2⟩, _, rfl, _, rfl, _, _, rfl, rfl, _, rfl, _, rfl, rIx_of hq (atI_nat (rV_get gS)) ⟨(by show 2 <= sizeLine; decide), fun t ht => ?_⟩⟩
    have nF : F ≠ t := ne_of_none h2 ht
    have lr : rs.length < l.length := by
     rw [hp.len]
     have := runs_length_le (l.take st)
     rw [List.length_take] at this
     have := sg.le
     omega
    refine ⟨F, _, _, rfl, rfl, (by rw [upd_ne nF]; exact h2), line_lt (by rw [List.length_map]; omega), ?_⟩
    refine ⟨_, rfl, ?_⟩
    refine kD _ _ ⟨i + 1, rs ++ [t], _, by rw [eI]; rfl, ?_, by rw [upd_same, List.map_append]; rfl, ?_, sg.cut hi hn⟩
    ·intro b o e
     have e2 := s2 b o e
     rw [upd_ne (ne_of_none e hF), upd_ne (ne_of_none e2 ht)]
     exact e2
    ·rw [sg.runs hi gS]
     refine (hp.same fun b o hb e => ?_).snoc ?_
     ·obtain ⟨xs, ex⟩ := hp.mem hb
      have nb : b ≠ F := ne_of ex h2 (by intro z; cases z)
      rw [upd_ne nb, upd_ne (ne_of_none e ht)]
      exact e
     ·have le := sg.le
      rw [upd_ne nF.symm, upd_same]
      have e3 : (1 : Int) + (i : Int) - (st : Int) = ((i + 1 - st : Nat) : Int) := by omega
      show some (HO.tup [V.int ((1 : Int) + (i : Int) - (st : Int)), V.int (l[st] : Int)]) = _
      rw [e3]
   refine ⟨_, rfl, _, rfl, a, rV l, rfl, hq, rfl, _, rfl, ?_⟩
   refine ite2 (fun h => ?_) (fun h => ?_)
   ·
    have h' : V.int (1 + (i : Int)) = V.int ((rV l).length : Int) := of_decide_eq_true h
    have h2' : (1 : Int) + (i : Int) = ((rV l).length : Int) := by injection h'
    rw [rV_length] at h2'
    refine iteT ?_
    exact app (.inl (by omega)) _ fun _ _ z => z
   ·have h' : ¬ (i + 1 = l.length) := fun z => h (decide_eq_true (by rw [rV_length, eI, z]))
    have hi1 : i + 1 < l.length := by omega
    have gI : l[i + 1]? = some l[i + 1] := List.getElem?_eq_getElem hi1
    refine ⟨_, rfl, _, rfl, rIx_of hq (at_of (j := i + 1) eI (rV_get gI)) ⟨_, rfl, _, rfl, rIx_of hq (atI_nat (rV_get gS)) ⟨rfl, _, rfl, ?_⟩⟩⟩
    refine ite2 (fun hd => ?_) (fun hd => ?_)
    ·refine app (.inr fun z => ?_) _ fun _ _ z => z
     rw [gI, gS] at z
     rw [Option.some.inj z] at hd
     simp at hd
    ·have e2 : l[i + 1] = l[st] := by
      simp at hd
      omega
     exact ⟨st, rs, _, rfl, s2, h2, hp, sg.on hi1 (by rw [gI, gS, e2])⟩
  ·rintro σ H2 ⟨st, rs, v, rfl, s2, h2, hp, sg⟩
   have e := sg.fin rfl
   subst e
   rw [List.take_length] at hp
   exact ⟨_, rfl, k F rs H2 hF h2 hp s2⟩
theorem fl_take {ps : List (Nat × Nat)} {i : Nat} {p : Nat × Nat} (h : ps[i]? = some p) : fl (ps.take (i + 1)) = fl (ps.take i) ++ [p.1, p.2] := by
 obtain ⟨hl, e⟩ := List.getElem?_eq_some_iff.mp h
 rw [List.take_succ_eq_append_getElem hl, fl_append, e]
 rfl
theorem scReadRuns : FnScope ["found", "spoken", "often", "digit"] ["found"] (defScope sReadRuns) := ⟨rfl, rfl, rfl, by decide +kernel, rfl, by decide +kernel, by decide +kernel⟩
theorem ok_readruns {f : Addr} {fd : FuncData} (D : Def K mg "read_runs" sReadRuns f fd ["found"]) (T : Txt K mg) : FnOk P w K mg base CX0 1 f fd ["found"] (spReadRuns K) := by
 refine D.F.ok scReadRuns (fun vs H Q E h => ?_) (fun cdv A outer s H vs Q E hr h => ?_)
 ·obtain ⟨a, rs, ps, rfl, _⟩ := h
  rfl
 ·obtain ⟨F, rs, ps, rfl, hF, hp, hl, k⟩ := h
  have turn : ∀ (S : Addr) (H1 : Hp), H S = none -> Same H H1 -> H1 S = some (.lst []) -> ∀ (D : Ends) (i : Nat) (y : V) (σ : L2.St) (H2 : Hp), (rs.map V.ref)[i]? = some y ->
    (∃ v u, σ = [some (.ref F), some (.ref S), v, u] /\ (∀ b o, H1 b = some o -> b ≠ S -> H2 b = some o) /\ H2 S = some (.lst (rV (fl (ps.take i))))) ->
    (∀ σ' H', (∃ v u, σ' = [some (.ref F), some (.ref S), v, u] /\ (∀ b o, H1 b = some o -> b ≠ S -> H' b = some o) /\ H' S = some (.lst (rV (fl (ps.take (i + 1)))))) -> D.nx σ' H') ->
    gTup K 2 (gCons (gName 2) (gCons (gName 3) gNil)) y σ H2 (fun σ' H' => tSeq (tDrop (tBM K "list" rAppend (tVar 1) (tCons (tVar 2) tNil))) (tDrop (tBM K "list" rAppend (tVar 1) (tCons (tVar 3) tNil))) D σ' H') := by
   intro S H1 hS s1 h1 D i y σ H2 hi hI kD
   obtain ⟨v, u, rfl, q, hq⟩ := hI
   rw [List.getElem?_map] at hi
   cases et : rs[i]? with
   | none => rw [et] at hi; cases hi
   | some t =>
    rw [et] at hi
    obtain rfl : V.ref t = y := Option.some.inj hi
    have hil : i < ps.length := by
     rw [<- hp.len]
     exact (List.getElem?_eq_some_iff.mp et).1
    have ep : ps[i]? = some ps[i] := List.getElem?_eq_getElem hil
    have ht := s1 _ _ (hp.at_ i t _ et ep)
    have nt : t ≠ S := ne_of ht h1 (by intro z; cases z)
    have lf : (rV (fl (ps.take i))).length = 2 * i := by
     rw [rV_length, fl_length, List.length_take]
     omega
    refine ⟨t, _, rfl, SqT.of (q t _ ht nt), rfl, _, _, rfl, _, _, rfl, rfl, ?_⟩
    refine ⟨_, rfl, .inl ⟨rfl, _, SqL.of hq⟩, _, rfl, S, _, _, rfl, rfl, hq, line_lt (by rw [lf]; omega), ?_⟩
    refine ⟨_, rfl, .inl ⟨rfl, _, SqL.of upd_same⟩, _, rfl, S, _, _, rfl, rfl, upd_same, line_lt (by rw [List.length_append, lf]; show 2 * i + 1 < _; omega), ?_⟩
    refine kD _ _ ⟨_, _, rfl, fun b o e hb => ?_, ?_⟩
    ·rw [upd_ne hb, upd_ne hb]
     exact q b o e hb
    ·rw [upd_same, fl_take ep, rV_append, List.append_assoc]
     rfl
  rcases hF with hF | hF
  ·refine ⟨_, pss_cons (ps_set (i := 1) scReadRuns.nd rfl (Or.inl rfl) (pe_lst pa_nil))
    (pss_cons (ps_for PassesOwn.never rfl (pi_list (pv 0)) (pg_tup rfl (pgs_cons (pg_name (i := 2) scReadRuns.nd rfl (Or.inl rfl)) (pgs_cons (pg_name (i := 3) scReadRuns.nd rfl (Or.inl rfl)) pgs_nil)))
     (pss_cons (ps_expr (pe_bm PySem.F.plainAttrs_list PySem.F.slot_list_append PySem.F.type_list_append mt_append (pv 1) (pa_cons (pv 2) pa_nil)))
      (pss_one (ps_expr (pe_bm PySem.F.plainAttrs_list PySem.F.slot_list_append PySem.F.type_list_append mt_append (pv 1) (pa_cons (pv 3) pa_nil))))))
    (pss_one (ps_ret (pv 1)))), ?_⟩
   refine ⟨(by show 0 <= sizeLine; decide), fun S hS0 => ?_⟩
   have s1 : Same H (upd H S (.lst [])) := fun b o e => by rw [upd_ne (ne_of_none e hS0)]; exact e
   have nFS : ∀ b o, H b = some o -> b ≠ S := fun b o e => ne_of_none e hS0
   refine ⟨_, rfl, F, rfl, ⟨_, s1.seq hF⟩, ?_⟩
   refine for_list (K := K) (a := F) (xs := rs.map V.ref) (fun i σ H2 => ∃ v u, σ = [some (.ref F), some (.ref S), v, u] /\ (∀ b o, (upd H S (.lst [])) b = some o -> b ≠ S -> H2 b = some o) /\ H2 S = some (.lst (rV (fl (ps.take i)))))
    ⟨none, none, rfl, fun b o e _ => e, upd_same⟩ (fun i σ H2 _ ⟨_, _, _, q, _⟩ => (show Same H H2 from fun b o e => q b o (s1 b o e) (nFS b o e)).seq hF) (fun i y σ H2 hi hI => turn S _ hS0 s1 upd_same _ i y σ H2 hi hI fun _ _ z => z) ?_
   rintro σ H2 ⟨v, u, rfl, q, hq⟩
   rw [List.length_map, hp.len, List.take_length] at hq
   exact ⟨_, rfl, k S H2 hS0 hq fun b o e => q b o (s1 b o e) (nFS b o e)⟩
  ·refine ⟨_, pss_cons (ps_set (i := 1) scReadRuns.nd rfl (Or.inl rfl) (pe_lst pa_nil))
    (pss_cons (ps_for PassesOwn.never rfl (pi_tup (pv 0)) (pg_tup rfl (pgs_cons (pg_name (i := 2) scReadRuns.nd rfl (Or.inl rfl)) (pgs_cons (pg_name (i := 3) scReadRuns.nd rfl (Or.inl rfl)) pgs_nil)))
     (pss_cons (ps_expr (pe_bm PySem.F.plainAttrs_list PySem.F.slot_list_append PySem.F.type_list_append mt_append (pv 1) (pa_cons (pv 2) pa_nil)))
      (pss_one (ps_expr (pe_bm PySem.F.plainAttrs_list PySem.F.slot_list_append PySem.F.type_list_append mt_append (pv 1) (pa_cons (pv 3) pa_nil))))))
    (pss_one (ps_ret (pv 1)))), ?_⟩
   refine ⟨(by show 0 <= sizeLine; decide), fun S hS0 => ?_⟩
   have s1 : Same H (upd H S (.lst [])) := fun b o e => by rw [upd_ne (ne_of_none e hS0)]; exact e
   have nFS : ∀ b o, H b = some o -> b ≠ S := fun b o e => ne_of_none e hS0
   refine ⟨_, rfl, F, rfl, ⟨_, s1.tup hF⟩, ?_⟩
   refine for_tup (K := K) (a := F) (xs := rs.map V.ref) (fun i σ H2 => ∃ v u, σ = [some (.ref F), some (.ref S), v, u] /\ (∀ b o, (upd H S (.lst [])) b = some o -> b ≠ S -> H2 b = some o) /\ H2 S = some (.lst (rV (fl (ps.take i)))))
    ⟨none, none, rfl, fun b o e _ => e, upd_same⟩ (fun i σ H2 _ ⟨_, _, _, q, _⟩ => (show Same H H2 from fun b o e => q b o (s1 b o e) (nFS b o e)).tup hF) (fun i y σ H2 hi hI => turn S _ hS0 s1 upd_same _ i y σ H2 hi hI fun _ _ z => z) ?_
   rintro σ H2 ⟨v, u, rfl, q, hq⟩
   rw [List.length_map, hp.len, List.take_length] at hq
   exact ⟨_, rfl, k S H2 hS0 hq fun b o e => q b o (s1 b o e) (nFS b o e)⟩
theorem scAloud : FnScope ["row"] ["row"] (defScope sAloud) := ⟨rfl, rfl, rfl, by decide +kernel, rfl, by decide +kernel, by decide +kernel⟩
theorem ok_aloud {f fR fA : Addr} {fd fdR fdA : FuncData} (D : Def K mg "read_aloud" sAloud f fd ["row"]) (T : Txt K mg) (DR : Def K mg "runs" sRuns fR fdR ["row"]) (DA : Def K mg "read_runs" sReadRuns fA fdA ["found"]) : FnOk P w K mg base CX0 2 f fd ["row"] (spAloud K) := by
 have GR : FnOk P w K mg base CX0 1 fR fdR ["row"] (spRuns K) := ok_runs DR T
 have GA : FnOk P w K mg base CX0 1 fA fdA ["found"] (spReadRuns K) := ok_readruns DA T
 refine D.F.ok scAloud (fun vs H Q E h => ?_) (fun cdv A outer s H vs Q E hr h => ?_)
 ·obtain ⟨a, l, rfl, _⟩ := h
  rfl
 ·obtain ⟨a, l, rfl, hS, hl, hal, k⟩ := h
  refine ⟨_, pss_one (ps_ret (pe_call GA hr rfl DA.mg DA.F.kp DA.b .nil pass0 (pa_cons (pe_call GR hr rfl DR.mg DR.F.kp DR.b .nil pass0 (pa_cons (pv 0) pa_nil)) pa_nil))), ?_⟩
  refine ⟨_, rfl, a, l, rfl, hS, hl, fun F rs H1 hF h1 hp s1 => ?_⟩
  refine ⟨F, rs, Rc75.runs l, rfl, .inl (SqL.of h1), hp, by rw [<- aloud_length]; exact hal, fun S H2 hS2 h2 s2 => ?_⟩
  exact k S H2 (s1.free hS2) h2 (s1.trans s2)
theorem scLater : FnScope ["row", "days", "now", "day"] ["row", "days"] (defScope sLater) := ⟨rfl, rfl, rfl, by decide +kernel, rfl, by decide +kernel, by decide +kernel⟩
theorem ok_later {f fA : Addr} {fd fdA : FuncData} (D : Def K mg "later" sLater f fd ["row", "days"]) (T : Txt K mg) (GA : FnOk P w K mg base CX0 2 fA fdA ["row"] (spAloud K)) (DA : Def K mg "read_aloud" sAloud fA fdA ["row"]) : FnOk P w K mg base CX0 3 f fd ["row", "days"] (spLater K) := by
 refine D.F.ok scLater (fun vs H Q E h => ?_) (fun cdv A outer s H vs Q E hr h => ?_)
 ·obtain ⟨a, l, d, rfl, _⟩ := h
  rfl
 ·obtain ⟨a, l, d, rfl, hS, hl, hd, k1, k2⟩ := h
  refine ⟨_, pss_cons (ps_set (i := 2) scLater.nd rfl (Or.inl rfl) (pe_callTy call_list_of (by rfl) T.list PyProof.Rows.boot_list (pa_cons (pv 0) pa_nil)))
   (pss_cons (ps_for PassesOwn.never rfl (pi_range1 rfl T.range (pa_cons (pv 1) pa_nil)) (pg_name (i := 3) scLater.nd rfl (Or.inl rfl))
    (pss_cons (ps_set (i := 2) scLater.nd rfl (Or.inl rfl) (pe_call GA hr rfl DA.mg DA.F.kp DA.b .nil pass0 (pa_cons (pv 2) pa_nil)))
     (pss_one (ps_if (pt_cmpR op_gt (pe_callB call_len_seq (by rfl) T.len PySem.boot_len (pa_cons (pv 2) pa_nil)) (pe_gi T.longest) (nomark _)) (pss_one (ps_ret pe_non)) pss_nil))))
   (pss_one (ps_ret (pv 2)))), ?_⟩
  refine ⟨_, rfl, a, rV l, rfl, .inl hS, fun S hS0 => ?_⟩
  have s1 : Same H (upd H S (.lst (rV l))) := fun b o e => by rw [upd_ne (ne_of_none e hS0)]; exact e
  refine ⟨_, rfl, (d : Int), rfl, by omega, by omega, ?_⟩
  rw [show ((d : Int)).toNat = d from by omega]
  refine for_range (lo := 0) (n := d) (fun i σ H2 => ∃ (n : Addr) (v : Option V), σ = [some (.ref a), some (.int (d : Int)), some (.ref n), v] /\ Same H H2 /\ H n = none /\ H2 n = some (.lst (rV (Rc75.later i l))) /\ Short l i)
   ⟨S, none, rfl, s1, hS0, upd_same, fun j hj => by rw [show j = 0 from by omega]; exact hl⟩ ?_ ?_
  ·rintro i σ H2 hi ⟨n, v, rfl, s2, hn, h2, sh⟩
   refine ⟨_, rfl, n, Rc75.later i l, rfl, .inl (SqL.of h2), by have := sh i (Nat.le_refl _); omega, by have := sh i (Nat.le_refl _); have := aloud_length_le (Rc75.later i l); omega, fun N H3 hN h3 s3 => ?_⟩
   refine ⟨_, rfl, N, _, rfl, .inl (SqL.of h3), _, _, rfl, rfl, _, rfl, ?_⟩
   rw [<- later_succ] at h3 ⊢
   rw [rV_length]
   refine ite2 (fun h => ?_) (fun h => ?_)
   ·have h' := of_decide_eq_true h
    refine k2 (fun z => ?_) H3 (s2.trans s3)
    have := z (i + 1) (by omega)
    omega
   ·have h' : ¬ ((65536 : Int) < ((Rc75.later (i + 1) l).length : Int)) := fun z => h (decide_eq_true z)
    refine ⟨N, _, rfl, s2.trans s3, s2.free hN, h3, fun j hj => ?_⟩
    by_cases e : j = i + 1
    ·subst e; omega
    ·exact sh j (by omega)
  ·rintro σ H2 ⟨n, v, rfl, s2, hn, h2, sh⟩
   exact ⟨_, rfl, k1 sh n H2 hn h2 s2⟩
theorem scBefore : FnScope ["row", "before", "place", "digit"] ["row"] (defScope sBefore) := ⟨rfl, rfl, rfl, by decide +kernel, rfl, by decide +kernel, by decide +kernel⟩
theorem ok_before {f : Addr} {fd : FuncData} (D : Def K mg "day_before" sBefore f fd ["row"]) (T : Txt K mg) : FnOk P w K mg base CX0 1 f fd ["row"] (spBefore K) := by
 refine D.F.ok scBefore (fun vs H Q E h => ?_) (fun cdv A outer s H vs Q E hr h => ?_)
 ·obtain ⟨a, l, rfl, _⟩ := h
  rfl
 ·obtain ⟨a, l, rfl, hS, hl, hpl, k1, k2⟩ := h
  refine ⟨_, pss_cons (ps_if (pt_cmpR op_eq (pe_op op_mod (pe_callB call_len_seq (by rfl) T.len PySem.boot_len (pa_cons (pv 0) pa_nil)) pe_int) pe_int (nomark _)) (pss_one (ps_ret pe_non)) pss_nil)
   (pss_cons (ps_set (i := 1) scBefore.nd rfl (Or.inl rfl) (pe_lst pa_nil))
   (pss_cons (ps_for PassesOwn.never rfl (pi_range3 rfl T.range (pa_cons pe_int (pa_cons (pe_callB call_len_seq (by rfl) T.len PySem.boot_len (pa_cons (pv 0) pa_nil)) (pa_cons pe_int pa_nil)))) (pg_name (i := 2) scBefore.nd rfl (Or.inl rfl))
    (pss_cons (ps_set (i := 3) scBefore.nd rfl (Or.inl rfl) (pe_ix ix_list (pv 0) (pe_op op_add (pv 2) pe_int) (fun _ _ => rfl)))
    (pss_cons (ps_if (PW.pt (pw_and (pt_cmpR op_gt (pv 2) pe_int (nomark _)) (pw_and1 (pt_cmpR op_eq (pe_ix ix_list (pv 0) (pe_op op_sub (pv 2) pe_int) (fun _ _ => rfl)) (pv 3) (nomark _))))) (pss_one (ps_ret pe_non)) pss_nil)
    (pss_one (ps_expr (pe_bm PySem.F.plainAttrs_list PySem.F.slot_list_extend PySem.F.type_list_extend mt_extend (pv 1) (pa_cons (pe_op op_rep (pe_lst (pa_cons (pv 3) pa_nil)) (pe_ix ix_list (pv 0) (pv 2) (fun _ _ => rfl))) pa_nil)))))))
   (pss_cons (ps_if (pt_cmpR op_gt (pe_callB call_len_seq (by rfl) T.len PySem.boot_len (pa_cons (pv 1) pa_nil)) (pe_gi T.longest) (nomark _)) (pss_one (ps_ret pe_non)) pss_nil)
   (pss_one (ps_ret (pv 1)))))), ?_⟩
  refine ⟨_, rfl, a, rV l, rfl, .inl hS, _, _, rfl, rfl, (by show (0 : Int) < 2; decide), rfl, _, rfl, ?_⟩
  rw [rV_length]
  refine ite2 (fun h => ?_) (fun h => ?_)
  ·have h' : V.int ((l.length : Int) % 2) = V.int 1 := of_decide_eq_true h
   have h2 : (l.length : Int) % 2 = 1 := by injection h'
   refine k2 (fun t ht => ?_) H (Same.refl H)
   rw [said_odd l (by omega)] at ht
   cases ht
  have hev : l.length % 2 = 0 := by
   have : ¬ ((l.length : Int) % 2 = 1) := fun z => h (decide_eq_true (show V.int ((l.length : Int) % 2) = V.int 1 by rw [z]))
   omega
  refine ⟨(by show 0 <= sizeLine; decide), fun B hB => ?_⟩
  have s1 : Same H (upd H B (.lst [])) := fun b o e => by rw [upd_ne (ne_of_none e hB)]; exact e
  refine ⟨_, rfl, a, rV l, rfl, .inl (s1.seq hS), 0, (l.length : Int), 2, (l.length + 1) / 2, by rw [rV_length], RgC.two (by omega), ?_⟩
  rw [show (l.length + 1) / 2 = l.length / 2 from by omega]
  refine for_rangeC (lo := 0) (c := 2) (n := l.length / 2) (fun i σ H2 => ∃ (v u : Option V), σ = [some (.ref a), some (.ref B), v, u] /\ Same H H2 /\ H2 B = some (.lst (rV (un (l.take (2 * i))))) /\ ∀ j, j + 1 < i -> l[2 * j + 1]? ≠ l[2 * j + 3]?)
   ⟨none, none, rfl, s1, by simp [un, rV, upd_same], fun j hj => by omega⟩ ?_ ?_
  ·rintro i σ H2 hi ⟨v, u, rfl, s2, h2, alt⟩
   have hq : SqL K H2 a (rV l) := s2.seq hS
   have g0 : l[2 * i]? = some l[2 * i] := List.getElem?_eq_getElem (by omega)
   have g1 : l[2 * i + 1]? = some l[2 * i + 1] := List.getElem?_eq_getElem (by omega)
   have m0 := hpl _ (List.mem_of_getElem? g0)
   have m1 := hpl _ (List.mem_of_getElem? g1)
   have eI : (0 : Int) + (i : Int) * 2 = ((2 * i : Nat) : Int) := by omega
   have go : (∀ j, j + 1 < i + 1 -> l[2 * j + 1]? ≠ l[2 * j + 3]?) -> ∀ (D : Ends), (∀ σ' H', (∃ (v u : Option V), σ' = [some (.ref a), some (.ref B), v, u] /\ Same H H' /\ H' B = some (.lst (rV (un (l.take (2 * (i + 1)))))) /\ ∀ j, j + 1 < i + 1 -> l[2 * j + 1]? ≠ l[2 * j + 3]?) -> D.nx σ' H') ->
     tDrop (tBM K "list" rExtend (tVar 1) (tCons (tOp rRep (tLst (tCons (tVar 3) tNil)) (tOp (rIxL K) (tVar 0) (tVar 2))) tNil)) D [some (.ref a), some (.ref B), some (.int (0 + (i : Int) * 2)), some (.int (l[2 * i + 1] : Int))] H2 := by
    intro alt' D kD
    refine ⟨_, rfl, .inl ⟨rfl, _, SqL.of h2⟩, _, rfl, (by show 1 <= sizeLine; decide), fun t ht => ?_⟩
    have nB : B ≠ t := ne_of_none h2 ht
    have s3 : Same H2 (upd H2 t (.lst [V.int (l[2 * i + 1] : Int)])) := fun b o e => by rw [upd_ne (ne_of_none e ht)]; exact e
    refine ⟨_, rfl, _, rfl, a, _, _, _, rfl, rfl, s3.seq hq, at_of (j := 2 * i) eI (rV_get g0), t, _, _, rfl, rfl, upd_same, by omega, by omega, line_le (by show 1 * _ <= _; omega), fun p hp => ?_⟩
    have npt : t ≠ p := ne_of_none upd_same hp
    have nB2 : B ≠ p := ne_of_none (show (upd H2 t (.lst [V.int (l[2 * i + 1] : Int)])) B = some _ by rw [upd_ne nB]; exact h2) hp
    have le9 := un_length (l.take (2 * i)) fun x hx => (hpl x (List.mem_of_mem_take hx)).2
    have erep : (List.replicate ((l[2 * i] : Int)).toNat [V.int (l[2 * i + 1] : Int)]).flatten = rV (List.replicate l[2 * i] l[2 * i + 1]) := by
     rw [show ((l[2 * i] : Int)).toNat = l[2 * i] from by omega]
     simp [rV, List.map_replicate]
    refine ⟨B, p, _, _, rfl, rfl, (by rw [upd_ne nB2, upd_ne nB]; exact h2), upd_same, line_le ?_, ?_⟩
    ·rw [erep, rV_length, rV_length, List.length_replicate]
     rw [List.length_take] at le9
     omega
    ·refine kD _ _ ⟨_, _, rfl, fun b o e => ?_, ?_, alt'⟩
     ·have e2 := s2 b o e
      rw [upd_ne (ne_of_none e hB), upd_ne (ne_of_none (s3 b o e2) hp)]
      exact s3 b o e2
     ·rw [upd_same, erep, <- rV_append, <- un_take l i _ _ g0 g1]
      rfl
   refine ⟨_, rfl, _, rfl, _, _, rfl, rfl, a, _, _, _, rfl, rfl, hq, at_of (j := 2 * i + 1) (by omega) (rV_get g1), ?_⟩
   refine ⟨_, rfl, _, _, rfl, rfl, _, rfl, ?_⟩
   refine ite2 (fun h => ?_) (fun h => ?_)
   ·have h0 : 0 < i := by
     have := of_decide_eq_true h
     omega
    have gp : l[2 * i - 1]? = some l[2 * i - 1] := List.getElem?_eq_getElem (by omega)
    refine ⟨_, rfl, _, rfl, _, _, rfl, rfl, a, _, _, _, rfl, rfl, hq, at_of (j := 2 * i - 1) (by omega) (rV_get gp), _, rfl, rfl, _, rfl, ?_⟩
    have e1 : 2 * (i - 1) + 1 = 2 * i - 1 := by omega
    have e3 : 2 * (i - 1) + 3 = 2 * i + 1 := by omega
    refine ite2 (fun he => ?_) (fun he => ?_)
    ·have he' : V.int (l[2 * i - 1] : Int) = V.int (l[2 * i + 1] : Int) := of_decide_eq_true he
     have he2 : (l[2 * i - 1] : Int) = (l[2 * i + 1] : Int) := by injection he'
     refine k2 (fun t ht => ?_) H2 s2
     rw [said_adj l (i - 1) (fun x hx => (hpl x hx).1) (by omega) (by rw [e1, e3, gp, g1]; congr 1; omega)] at ht
     cases ht
    ·refine go (fun j hj => ?_) _ fun _ _ z => z
     by_cases hji : j + 1 = i
     ·have ej : j = i - 1 := by omega
      subst ej
      rw [e1, e3, gp, g1]
      exact fun z => he (decide_eq_true (by rw [Option.some.inj z]))
     ·exact alt j (by omega)
   ·have h0 : i = 0 := by
     have : ¬ ((0 : Int) < 0 + (i : Int) * 2) := fun z => h (decide_eq_true z)
     omega
    refine iteF ?_
    exact go (fun j hj => by omega) _ fun _ _ z => z
  ·rintro σ H2 ⟨v, u, rfl, s2, h2, alt⟩
   have e2 : 2 * (l.length / 2) = l.length := by omega
   rw [e2, List.take_length] at h2
   have hs : Rc75.said l = some (un l) := said_ok l (fun x hx => (hpl x hx).1) hev fun j hj => alt j (by omega)
   refine ⟨_, rfl, B, _, rfl, .inl (SqL.of h2), _, _, rfl, rfl, _, rfl, ?_⟩
   rw [rV_length]
   refine ite2 (fun h => ?_) (fun h => ?_)
   ·have h' := of_decide_eq_true h
    refine k2 (fun t ht => ?_) H2 s2
    rw [hs] at ht
    cases ht
    omega
   ·have h' : ¬ ((65536 : Int) < ((un l).length : Int)) := fun z => h (decide_eq_true z)
    exact ⟨_, rfl, k1 _ hs (by omega) B H2 hB h2 s2⟩
end
end RA
end
section
namespace RA
open PySem L2
open Rc75 (Row)
section
variable {P : Program} {w : World} {K : PySem.W.Frag} {mg : Str -> Option Value} {base : Heap}
theorem nats_back {ns : List Int} (h : ∀ z ∈ ns, 0 <= z) : ns.map V.int = rV (Rc75Neutral.natsOf ns) := by
 induction ns with
 | nil => rfl
 | cons z r ih =>
  have hz := h z (by simp)
  have := ih fun y hy => h y (by simp [hy])
  show V.int z :: r.map V.int = V.int ((z.toNat : Nat) : Int) :: rV (Rc75Neutral.natsOf r)
  rw [this, show ((z.toNat : Nat) : Int) = z from by omega]
theorem scMay : FnScope ["digits", "often", "digit"] ["digits"] (defScope sMay) := ⟨rfl, rfl, rfl, by decide +kernel, rfl, by decide +kernel, by decide +kernel⟩
theorem ok_may {f fR : Addr} {fd fdR : FuncData} (D : Def K mg "may_be_set" sMay f fd ["digits"]) (T : Txt K mg) (DR : Def K mg "runs" sRuns fR fdR ["row"]) : FnOk P w K mg base CX0 2 f fd ["digits"] (spMay K) := by
 have GR : FnOk P w K mg base CX0 1 fR fdR ["row"] (spRuns K) := ok_runs DR T
 refine D.F.ok scMay (fun vs H Q E h => ?_) (fun cdv A outer s H vs Q E hr h => ?_)
 ·obtain ⟨a, l, rfl, _⟩ := h
  rfl
 ·obtain ⟨a, ns, rfl, hS, hl, hb, k⟩ := h
  refine ⟨_, pss_cons (ps_if (PW.pt (pw_or (pt_cmpR op_lt (pe_callB call_len_seq (by rfl) T.len PySem.boot_len (pa_cons (pv 0) pa_nil)) pe_int (nomark _))
     (pw_or1 (pt_cmpR op_gt (pe_callB call_len_seq (by rfl) T.len PySem.boot_len (pa_cons (pv 0) pa_nil)) (pe_gi T.mostSet) (nomark _))))) (pss_one (ps_ret pe_bl)) pss_nil)
   (pss_cons (ps_if (PW.pt (pw_or (pt_cmpR op_lt (pe_callB (cr_min rfl) (by rfl) T.min PyProof.Rows.boot_min (pa_cons (pv 0) pa_nil)) pe_int (nomark _))
     (pw_or1 (pt_cmpR op_gt (pe_callB (cr_max rfl) (by rfl) T.max PyProof.Rows.boot_max (pa_cons (pv 0) pa_nil)) (pe_gi T.highest) (nomark _))))) (pss_one (ps_ret pe_bl)) pss_nil)
   (pss_one (ps_ret (pe_cmpR op_le (pe_callB (cr_max rfl) (by rfl) T.max PyProof.Rows.boot_max
    (pa_cons (pe_lc (own := [("often", 1), ("digit", 2)]) (g := gTup K 2 (gCons (gName 1) (gCons (gName 2) gNil))) (te := tVar 1) rfl scMay.nd (pi_list (pe_call GR hr rfl DR.mg DR.F.kp DR.b .nil pass0 (pa_cons (pv 0) pa_nil))) (blkOk_by (by kernel_rfl))
     (fun _ _ _ _ _ => by exact pg_tup rfl (pgs_cons (pg_name (i := 1) scMay.nd rfl (Or.inl rfl)) (pgs_cons (pg_name (i := 2) scMay.nd rfl (Or.inl rfl)) pgs_nil)))
     (fun _ _ _ _ _ => pts_nil) (fun _ _ _ _ _ => by exact pv 1)) pa_nil)) (pe_gi T.highest) (nomark _))))), ?_⟩
  have no : (decide (1 <= ns.length) && Rc75.plain (Rc75Neutral.natsOf ns)) = false -> Q (.bl false) H := fun e => by
   have := k H (Same.refl H)
   rw [e] at this
   exact this
  have lenV : (ns.map V.int).length = ns.length := List.length_map _
  refine ⟨_, rfl, a, _, rfl, .inl hS, _, _, rfl, rfl, _, rfl, ?_⟩
  rw [lenV]
  refine ite2 (fun h => ?_) (fun h => ?_)
  ·have h' := of_decide_eq_true h
   refine iteT (no ?_)
   rw [decide_eq_false (by omega), Bool.false_and]
  have h1 : 1 <= ns.length := by
   have : ¬ ((ns.length : Int) < 1) := fun z => h (decide_eq_true z)
   omega
  refine ⟨_, rfl, a, _, rfl, .inl hS, _, _, rfl, rfl, _, rfl, ?_⟩
  rw [lenV]
  refine ite2 (fun h => ?_) (fun _ => ?_)
  ·have h' := of_decide_eq_true h
   omega
  refine ⟨_, rfl, a, ns, rfl, hS, by omega, fun m hm hle => ⟨_, _, rfl, rfl, _, rfl, ?_⟩⟩
  refine ite2 (fun h => ?_) (fun h => ?_)
  ·have h' := of_decide_eq_true h
   refine iteT (no ?_)
   have hp : Rc75.plain (Rc75Neutral.natsOf ns) = false := by
    cases e : Rc75.plain (Rc75Neutral.natsOf ns) with
    | false => rfl
    | true =>
     have q := ((plain_iff _).mp e).1 m.toNat (List.mem_map_of_mem hm)
     omega
   rw [hp, Bool.and_false]
  have hm1 : 1 <= m := by
   have : ¬ (m < 1) := fun z => h (decide_eq_true z)
   omega
  refine ⟨_, rfl, a, ns, rfl, hS, by omega, fun M hM hMe => ⟨_, _, rfl, rfl, _, rfl, ?_⟩⟩
  refine ite2 (fun h => ?_) (fun h => ?_)
  ·have h' := of_decide_eq_true h
   refine no ?_
   have hp : Rc75.plain (Rc75Neutral.natsOf ns) = false := by
    cases e : Rc75.plain (Rc75Neutral.natsOf ns) with
    | false => rfl
    | true =>
     have q := ((plain_iff _).mp e).1 M.toNat (List.mem_map_of_mem hM)
     omega
   rw [hp, Bool.and_false]
  have hM9 : M <= 9 := by
   have : ¬ ((9 : Int) < M) := fun z => h (decide_eq_true z)
   omega
  have all19 : ∀ x ∈ Rc75Neutral.natsOf ns, 1 <= x /\ x <= 9 := by
   intro x hx
   obtain ⟨z, hz, rfl⟩ := List.mem_map.mp hx
   have q1 := hle z hz
   have q2 := hMe z hz
   omega
  have hlen : (Rc75Neutral.natsOf ns).length = ns.length := List.length_map _
  have hS' : SqL K H a (rV (Rc75Neutral.natsOf ns)) := by
   rw [<- nats_back fun z hz => (hb z hz).1]
   exact hS
  have hr1 : (Rc75.runs (Rc75Neutral.natsOf ns)).length <= ns.length := by
   have := runs_length_le (Rc75Neutral.natsOf ns)
   omega
  have hr0 : 0 < (Rc75.runs (Rc75Neutral.natsOf ns)).length := by
   cases e : Rc75Neutral.natsOf ns with
   | nil => rw [e] at hlen; simp at hlen; omega
   | cons b r =>
    obtain ⟨k, q, e2⟩ := runs_cons b r
    rw [e2]
    simp
  refine ⟨_, rfl, a, Rc75Neutral.natsOf ns, rfl, .inl hS', by omega, fun F rs H1 hF h1' hp s2 => ⟨F, rfl, ⟨_, SqL.of h1'⟩, fun L hL => ?_⟩⟩
  refine lc_list (K := K) (a := F) (xs := rs.map V.ref) (fun i H2 => (∀ b o, H1 b = some o -> H2 b = some o) /\ H2 L = some (.lst (((Rc75.runs (Rc75Neutral.natsOf ns)).take i).map fun p => V.int (p.1 : Int))))
   ⟨fun b o e => by rw [upd_ne (ne_of_none e hL)]; exact e, upd_same⟩ (fun i H2 _ q => SqL.of (q.1 F _ h1')) ?_ ?_
  ·rintro i y H2 hi ⟨q, hq⟩
   rw [List.getElem?_map] at hi
   cases et : rs[i]? with
   | none => rw [et] at hi; cases hi
   | some t =>
    rw [et] at hi
    obtain rfl : V.ref t = y := Option.some.inj hi
    have hil : i < (Rc75.runs (Rc75Neutral.natsOf ns)).length := by
     rw [<- hp.len]
     exact (List.getElem?_eq_some_iff.mp et).1
    have ep : (Rc75.runs (Rc75Neutral.natsOf ns))[i]? = some (Rc75.runs (Rc75Neutral.natsOf ns))[i] := List.getElem?_eq_getElem hil
    have ht := hp.at_ i t _ et ep
    refine ⟨t, _, rfl, SqT.of (q t _ ht), rfl, _, _, rfl, _, _, rfl, rfl, rfl, ?_⟩
    unfold tYes
    dsimp only
    rw [if_pos rfl]
    refine ⟨_, rfl, _, hq, line_lt (by rw [List.length_map, List.length_take]; omega), fun b o e => ?_, ?_⟩
    ·rw [upd_ne (ne_of_none e hL)]
     exact q b o e
    ·rw [upd_same, List.take_succ_eq_append_getElem hil, List.map_append]
     rfl
  ·rintro H2 ⟨q, hq⟩
   rw [List.length_map, hp.len, List.take_length] at hq
   have eq1 : ((Rc75.runs (Rc75Neutral.natsOf ns)).map fun p => V.int (p.1 : Int)) = ((Rc75.runs (Rc75Neutral.natsOf ns)).map fun p => (p.1 : Int)).map V.int := by
    rw [List.map_map]
    rfl
   rw [eq1] at hq
   refine ⟨L, _, rfl, SqL.of hq, by rw [List.length_map]; exact hr0, fun g hg hge => ⟨_, _, rfl, rfl, ?_⟩⟩
   have fin := k H2 fun b o e => q b o (s2 b o e)
   have ev : (decide (1 <= ns.length) && Rc75.plain (Rc75Neutral.natsOf ns)) = decide (g <= 9) := by
    rw [decide_eq_true h1, Bool.true_and]
    by_cases hg9 : g <= 9
    ·rw [decide_eq_true hg9]
     refine (plain_iff _).mpr ⟨all19, fun p hp' => ?_⟩
     have := hge _ (List.mem_map_of_mem hp')
     omega
    ·rw [decide_eq_false hg9]
     cases e : Rc75.plain (Rc75Neutral.natsOf ns) with
     | false => rfl
     | true =>
      obtain ⟨p, hp', rfl⟩ := List.mem_map.mp hg
      have := ((plain_iff _).mp e).2 p hp'
      omega
   rw [ev] at fin
   exact fin
end
end RA
end
section
namespace RA
open PySem L2
open Rc75 (Row)
abbrev sBeg : Stmt := top 15
abbrev sBegLater : Stmt := top 16
abbrev sFirst : Stmt := top 17
abbrev sFirsts : Stmt := top 18
structure PTxt (mg : Str -> Option Value) : Prop where
 tuple : mg "tuple" = none
 sight : GI mg "SIGHT" 8
theorem PairsV.of {H : Hp} : ∀ {rs : List Addr} {ps : List (Nat × Nat)}, Pairs H rs ps -> PairsV H ps (rs.map V.ref)
 | [], [], _ => .nil
 | [], _ :: _, h => by have := h.len; simp at this
 | _ :: _, [], h => by have := h.len; simp at this
 | r :: rs, p :: ps, h => .cons (h.at_ 0 r p rfl rfl) (PairsV.of ⟨by have := h.len; simpa using this, fun i a q h1 h2 => h.at_ (i + 1) a q (by simpa using h1) (by simpa using h2)⟩)
theorem Pairs.cons {H : Hp} {r : Addr} {p : Nat × Nat} {rs : List Addr} {ps : List (Nat × Nat)} (h : H r = some (.tup [.int (p.1 : Int), .int (p.2 : Int)])) (t : Pairs H rs ps) : Pairs H (r :: rs) (p :: ps) := by
 refine ⟨by simp [t.len], fun i a q h1 h2 => ?_⟩
 cases i with
 | zero =>
  have e1 : r = a := by simpa using h1
  have e2 : p = q := by simpa using h2
  subst e1 e2
  exact h
 | succ i => exact t.at_ i a q (by simpa using h1) (by simpa using h2)
theorem PairsV.pairs {H : Hp} : ∀ {ps : List (Nat × Nat)} {vs : List V}, PairsV H ps vs -> ∃ rs : List Addr, vs = rs.map V.ref /\ Pairs H rs ps
 | _, _, .nil => ⟨[], rfl, Pairs.nil H⟩
 | _, _, .cons (r := r) h t => by
  obtain ⟨rs, e, q⟩ := t.pairs
  exact ⟨r :: rs, by rw [e]; rfl, q.cons h⟩
theorem PairsV.take {H : Hp} : ∀ {ps : List (Nat × Nat)} {vs : List V} (n : Nat), PairsV H ps vs -> PairsV H (ps.take n) (vs.take n)
 | _, _, 0, _ => by simpa using PairsV.nil
 | _, _, _ + 1, .nil => .nil
 | _, _, n + 1, .cons h t => .cons h (t.take n)
theorem Pairs.drop1 {H : Hp} {rs : List Addr} {ps : List (Nat × Nat)} (h : Pairs H rs ps) : Pairs H rs.dropLast ps.dropLast := by
 refine ⟨by simp [h.len], fun i a p h1 h2 => ?_⟩
 rw [List.getElem?_dropLast] at h1 h2
 split at h1
 ·split at h2
  ·exact h.at_ i a p h1 h2
  ·cases h2
 ·cases h1
theorem cut_to (xs : List V) (n : Nat) : cutV xs none (some (n : Int)) = xs.take n := by
 unfold cutV
 rw [HT.sIx_nat]
 show (xs.drop 0).take (min n xs.length - 0) = xs.take n
 rw [List.drop_zero, Nat.sub_zero]
 by_cases h : n <= xs.length
 ·rw [Nat.min_eq_left h]
 ·rw [Nat.min_eq_right (by omega), List.take_of_length_le (Nat.le_refl _), List.take_of_length_le (by omega)]
theorem same_tup {H H' : Hp} (s : Same H H') : ∀ b ys, H b = some (.tup ys) -> H' b = some (.tup ys) := fun b ys e => s b _ e
theorem same_new {H : Hp} {a : Addr} {o : HO} (h : H a = none) : Same H (upd H a o) := fun b u e => by rw [upd_ne (ne_of_none e h)]; exact e
def spBeg (K : PySem.W.Frag) : Sp := fun vs H Q _ => ∃ (a : Addr) (rs : List Addr) (ps : List (Nat × Nat)) (w : Bool), vs = [.ref a, .bl w] /\ SqL K H a (rs.map V.ref) /\ Pairs H rs ps /\
 ∀ (b : Addr) (H' : Hp), H b = none -> KeyV H' (begB ps w) b -> Same H H' -> Q (.ref b) H'
def spBegLater : Sp := fun vs H Q _ => ∃ (a : Addr) (k : BKey), vs = [.ref a] /\ KeyV H k a /\ k.1 ≠ [] /\ k.1.length <= 8 /\ ∀ (b : Addr) (H' : Hp), H b = none -> KeyV H' (nextB k) b -> Same H H' -> Q (.ref b) H'
def spFirst : Sp := fun vs H Q _ => ∃ (a : Addr) (k : BKey), vs = [.ref a] /\ KeyV H k a /\ k.1 ≠ [] /\ Q (.int (fdB k : Int)) H
def Ahead (kvs : List (Key × V)) (k : BKey) : Prop := ∃ i m, m < i /\ itB i k = itB m k /\ ∀ n : Int, (valV kvs (.inl n)).isSome = true ↔ ∃ j, j < i /\ n = (fdB (itB j k) : Int)
def spFirsts : Sp := fun vs H Q _ => ∃ (a : Addr) (k : BKey) (v : Row), vs = [.ref a] /\ KeyV H k a /\ Start k v /\
 ∀ (D : Addr) (kvs : List (Key × V)) (H' : Hp), H D = none -> H' D = some (.dK kvs) -> Ahead kvs k -> Same H H' -> Q (.ref D) H'
section
variable {P : Program} {w : World} {K : PySem.W.Frag} {mg : Str -> Option Value} {base : Heap}
theorem scBeg : FnScope ["found", "whole"] ["found", "whole"] (defScope sBeg) := ⟨rfl, rfl, rfl, by decide +kernel, rfl, by decide +kernel, by decide +kernel⟩
theorem ok_beg {f : Addr} {fd : FuncData} (D : Def K mg "beginning" sBeg f fd ["found", "whole"]) (T : Txt K mg) (TP : PTxt mg) : FnOk P w K mg base CX0 1 f fd ["found", "whole"] (spBeg K) := by
 refine D.F.ok scBeg (fun vs H Q E h => ?_) (fun cdv A outer s H vs Q E hr h => ?_)
 ·obtain ⟨a, rs, ps, b, rfl, _⟩ := h
  rfl
 ·obtain ⟨a, rs, ps, wh, rfl, hS, hp, k⟩ := h
  refine ⟨_, pss_cons (ps_if (pt_cmpR op_gt (pe_callB call_len_seq (by rfl) T.len PySem.boot_len (pa_cons (pv 0) pa_nil)) (pe_gi TP.sight) (nomark _))
    (pss_one (ps_ret (pe_tup (pa_cons (pe_callTy call_tuple_of (by rfl) TP.tuple PyProof.Rows.boot_tuple (pa_cons (pe_slice sl_list (pv 0) po_none (po_some (pe_gi TP.sight))) pa_nil)) (pa_cons pe_bl pa_nil))))) pss_nil)
   (pss_one (ps_ret (pe_tup (pa_cons (pe_callTy call_tuple_of (by rfl) TP.tuple PyProof.Rows.boot_tuple (pa_cons (pv 0) pa_nil)) (pa_cons (pv 1) pa_nil))))), ?_⟩
  have pv0 := PairsV.of hp
  refine ⟨_, rfl, a, _, rfl, .inl hS, _, _, rfl, rfl, _, rfl, ?_⟩
  have lv : (rs.map V.ref).length = ps.length := by rw [List.length_map, hp.len]
  refine ite2 (fun h => ?_) (fun h => ?_)
  ·have h' := of_decide_eq_true h
   rw [lv] at h'
   have h8 : 8 < ps.length := by omega
   refine ⟨_, rfl, _, rfl, a, _, rfl, hS, fun L hL => ?_⟩
   have s1 : Same H (upd H L (.lst (cutV (rs.map V.ref) none (some 8)))) := same_new hL
   have e8 : cutV (rs.map V.ref) none (some 8) = (rs.map V.ref).take 8 := cut_to _ 8
   refine ⟨L, _, rfl, .inl ⟨SqL.of upd_same, fun t ht => ?_⟩⟩
   have s2 := s1.trans (same_new (o := .tup (cutV (rs.map V.ref) none (some 8))) ht)
   refine ⟨(by show 2 <= sizeLine; decide), fun b hb => ?_⟩
   have s3 := s2.trans (same_new (o := .tup [.ref t, .bl false]) hb)
   refine k b _ (s2.free hb) ?_ s3
   rw [begB_long h8]
   have ntb : t ≠ b := ne_of_none upd_same hb
   refine ⟨t, (rs.map V.ref).take 8, upd_same, ?_, (pv0.take 8).same (same_tup s3)⟩
   rw [upd_ne ntb, upd_same, e8]
  ·have h8 : ¬ 8 < ps.length := fun z => h (decide_eq_true (by rw [lv]; show (8 : Int) < _; omega))
   refine ⟨_, rfl, a, _, rfl, .inl ⟨hS, fun t ht => ?_⟩⟩
   have s2 : Same H (upd H t (.tup (rs.map V.ref))) := same_new ht
   refine ⟨_, rfl, (by show 2 <= sizeLine; decide), fun b hb => ?_⟩
   have s3 := s2.trans (same_new (o := .tup [.ref t, .bl wh]) hb)
   refine k b _ (s2.free hb) ?_ s3
   have eb : begB ps wh = (ps, wh) := by unfold begB; rw [if_neg h8]
   rw [eb]
   have ntb : t ≠ b := ne_of_none upd_same hb
   refine ⟨t, rs.map V.ref, upd_same, ?_, pv0.same (same_tup s3)⟩
   rw [upd_ne ntb, upd_same]
theorem scBegLater : FnScope ["start", "whole", "following"] ["start"] (defScope sBegLater) := ⟨rfl, rfl, rfl, by decide +kernel, rfl, by decide +kernel, by decide +kernel⟩
theorem ok_beglater {f fR fA fB : Addr} {fd fdR fdA fdB : FuncData} (D : Def K mg "beginning_later" sBegLater f fd ["start"]) (T : Txt K mg) (TP : PTxt mg) (DR : Def K mg "runs" sRuns fR fdR ["row"]) (DA : Def K mg "read_runs" sReadRuns fA fdA ["found"])
  (DB : Def K mg "beginning" sBeg fB fdB ["found", "whole"]) : FnOk P w K mg base CX0 2 f fd ["start"] spBegLater := by
 have GR : FnOk P w K mg base CX0 1 fR fdR ["row"] (spRuns K) := ok_runs DR T
 have GA : FnOk P w K mg base CX0 1 fA fdA ["found"] (spReadRuns K) := ok_readruns DA T
 have GB : FnOk P w K mg base CX0 1 fB fdB ["found", "whole"] (spBeg K) := ok_beg DB T TP
 refine D.F.ok scBegLater (fun vs H Q E h => ?_) (fun cdv A outer s H vs Q E hr h => ?_)
 ·obtain ⟨a, k, rfl, _⟩ := h
  rfl
 ·obtain ⟨a, k, rfl, ⟨t, vs, h1, h2, h3⟩, hne, h8, kQ⟩ := h
  refine ⟨_, pss_cons (ps_set (i := 1) scBegLater.nd rfl (Or.inl rfl) (pe_ix ix_tup (pv 0) pe_int (fun _ _ => rfl)))
   (pss_cons (ps_set (i := 2) scBegLater.nd rfl (Or.inl rfl) (pe_call GR hr rfl DR.mg DR.F.kp DR.b .nil pass0 (pa_cons (pe_call GA hr rfl DA.mg DA.F.kp DA.b .nil pass0 (pa_cons (pe_ix ix_tup (pv 0) pe_int (fun _ _ => rfl)) pa_nil)) pa_nil)))
   (pss_cons (ps_if (pt_not (pt_val (pv 1))) (pss_one (ps_expr (pe_bm0 PySem.F.plainAttrs_list PySem.F.slot_list_pop PySem.F.type_list_pop mt_pop (pv 2)))) pss_nil)
   (pss_one (ps_ret (pe_call GB hr rfl DB.mg DB.F.kp DB.b .nil pass0 (pa_cons (pv 2) (pa_cons (pv 1) pa_nil))))))), ?_⟩
  obtain ⟨rs, rfl, hp⟩ := h3.pairs
  refine ⟨_, rfl, a, _, _, _, rfl, rfl, SqT.of h1, rfl, ?_⟩
  refine ⟨_, rfl, a, _, _, _, rfl, rfl, SqT.of h1, rfl, ?_⟩
  refine ⟨t, rs, k.1, rfl, .inr (SqT.of h2), hp, by omega, fun S H1 hS h1' s1 => ?_⟩
  have lf : (fl k.1).length <= 16 := by rw [fl_length]; omega
  refine ⟨S, fl k.1, rfl, .inl (SqL.of h1'), by omega, fun F rs2 H2 hF h2' hp2 s2 => ?_⟩
  refine ⟨_, rfl, _, rfl, ?_⟩
  have hrn := runs_ne (fl_ne hne)
  cases ek : k.2 with
  | true =>
   refine iteF ?_
   refine ⟨_, rfl, _, rfl, F, rs2, Rc75.runs (fl k.1), true, rfl, SqL.of h2', hp2, fun b H3 hb hk3 s3 => ?_⟩
   refine kQ b H3 ((s1.trans s2).free hb) ?_ ((s1.trans s2).trans s3)
   unfold nextB
   rw [ek, if_pos rfl]
   exact hk3
  | false =>
   refine iteT ?_
   have hlen : 0 < rs2.length := by rw [hp2.len]; exact List.length_pos_iff.mpr hrn
   refine ⟨_, rfl, .inl ⟨rfl, _, SqL.of h2'⟩, F, _, _, rfl, rfl, h2', (by rw [List.length_map]; exact List.getElem?_eq_getElem (by rw [List.length_map]; omega)), ?_⟩
   have hF0 : H F = none := (s1.free hF)
   have sF : ∀ b o, H b = some o -> (upd H2 F (.lst (rs2.map V.ref).dropLast)) b = some o := fun b o e => by
    rw [upd_ne (ne_of_none e hF0)]
    exact (s1.trans s2) b o e
   have hp3 : Pairs (upd H2 F (.lst (rs2.map V.ref).dropLast)) rs2.dropLast (Rc75.runs (fl k.1)).dropLast := by
    refine (hp2.drop1).same fun b o hb e => ?_
    obtain ⟨xs, ex⟩ := hp2.mem (List.dropLast_subset _ hb)
    rw [upd_ne (ne_of ex h2' (by intro z; cases z))]
    exact e
   refine ⟨_, rfl, _, rfl, F, rs2.dropLast, _, false, rfl, SqL.of (by rw [upd_same, List.map_dropLast]), hp3, fun b H3 hb hk3 s3 => ?_⟩
   have hb0 : H b = none := by
    cases q : H b with
    | none => rfl
    | some o => rw [sF b o q] at hb; cases hb
   refine kQ b H3 hb0 ?_ fun c o e => s3 c o (sF c o e)
   unfold nextB
   rw [ek, if_neg (by decide)]
   exact hk3
theorem scFirst : FnScope ["start"] ["start"] (defScope sFirst) := ⟨rfl, rfl, rfl, by decide +kernel, rfl, by decide +kernel, by decide +kernel⟩
theorem ok_first {f : Addr} {fd : FuncData} (D : Def K mg "first_digit" sFirst f fd ["start"]) : FnOk P w K mg base CX0 1 f fd ["start"] spFirst := by
 refine D.F.ok scFirst (fun vs H Q E h => ?_) (fun cdv A outer s H vs Q E hr h => ?_)
 ·obtain ⟨a, k, rfl, _⟩ := h
  rfl
 ·obtain ⟨a, k, rfl, ⟨t, vs, h1, h2, h3⟩, hne, kQ⟩ := h
  refine ⟨_, pss_one (ps_ret (pe_ix ix_tup (pe_ix ix_tup (pe_ix ix_tup (pv 0) pe_int (fun _ _ => rfl)) pe_int (fun _ _ => rfl)) pe_int (fun _ _ => rfl))), ?_⟩
  obtain ⟨ps, wh⟩ := k
  cases h3 with
  | nil => exact absurd rfl hne
  | cons hr0 h3 => exact ⟨_, rfl, a, _, _, _, rfl, rfl, SqT.of h1, rfl, t, _, _, _, rfl, rfl, SqT.of h2, at_of (j := 0) rfl rfl, _, _, _, _, rfl, rfl, SqT.of hr0, rfl, kQ⟩
theorem seen_val (k : BKey) (b : BKey) : ∀ i, (valV ((List.range i).map fun j => (itB j k, V.bl true)) b).isSome = true ↔ ∃ j, j < i /\ itB j k = b := by
 intro i
 rw [<- valV_any, List.any_eq_true]
 refine ⟨fun ⟨x, hx, e⟩ => ?_, fun ⟨j, hj, e⟩ => ?_⟩
 ·obtain ⟨j, hj, rfl⟩ := List.mem_map.mp hx
  exact ⟨j, by simpa using hj, of_decide_eq_true e⟩
 ·exact ⟨(itB j k, V.bl true), List.mem_map.mpr ⟨j, by simpa using hj, rfl⟩, decide_eq_true e⟩
theorem scFirsts : FnScope ["start", "met", "digits", "now"] ["start"] (defScope sFirsts) := ⟨rfl, rfl, rfl, by decide +kernel, rfl, by decide +kernel, by decide +kernel⟩
theorem ok_firsts {f fF fL fR fA fB : Addr} {fd fdF fdL fdR fdA fdG : FuncData} (D : Def K mg "first_digits" sFirsts f fd ["start"]) (T : Txt K mg) (TP : PTxt mg) (DF : Def K mg "first_digit" sFirst fF fdF ["start"]) (DL : Def K mg "beginning_later" sBegLater fL fdL ["start"])
  (DR : Def K mg "runs" sRuns fR fdR ["row"]) (DA : Def K mg "read_runs" sReadRuns fA fdA ["found"]) (DB : Def K mg "beginning" sBeg fB fdG ["found", "whole"]) : FnOk P w K mg base CX0 3 f fd ["start"] spFirsts := by
 have GF : FnOk P w K mg base CX0 2 fF fdF ["start"] spFirst := (ok_first DF).mono (by decide)
 have GL : FnOk P w K mg base CX0 2 fL fdL ["start"] spBegLater := ok_beglater DL T TP DR DA DB
 refine D.F.ok scFirsts (fun vs H Q E h => ?_) (fun cdv A outer s H vs Q E hr h => ?_)
 ·obtain ⟨a, k, v, rfl, _⟩ := h
  rfl
 ·obtain ⟨a, k, v, rfl, hk, st, kQ⟩ := h
  have hu3 : (A.deeper (PyProof.Rows.envOfC "first_digits" (defScope sFirsts) s.heap.objs.size f cdv)).units + 3 < cLine := by have := hr.units; omega
  refine ⟨_, pss_cons (ps_set (i := 1) scFirsts.nd rfl (Or.inl rfl) pe_dnewB)
   (pss_cons (ps_set (i := 2) scFirsts.nd rfl (Or.inl rfl) pe_dnewK)
   (pss_cons (ps_set (i := 3) scFirsts.nd rfl (Or.inl rfl) (pv 0))
   (pss_cons (ps_while PassesOwn.never (pt_cmp (pc_bnotin hu3 (pv 3) (pv 1)))
    (pss_cons (ps_bput hu3 (pv 1) (pv 3) pe_bl rfl)
    (pss_cons (ps_dput (hu_of hr) (pv 2) (pe_call GF hr rfl DF.mg DF.F.kp DF.b .nil pass0 (pa_cons (pv 3) pa_nil)) pe_bl rfl)
    (pss_one (ps_set (i := 3) scFirsts.nd rfl (Or.inl rfl) (pe_call GL hr rfl DL.mg DL.F.kp DL.b .nil pass0 (pa_cons (pv 3) pa_nil)))))))
   (pss_one (ps_ret (pv 2)))))), ?_⟩
  intro M hM dM
  have s1 : Same H (upd H M (.ext (NdAt P w M []))) := same_new hM
  intro D hD
  have s2 := s1.trans (same_new (o := .dK []) hD)
  have nMD : M ≠ D := ne_of_none upd_same hD
  refine ⟨_, rfl, ?_⟩
  have eM : (upd (upd H M (.ext (NdAt P w M []))) D (.dK [])) M = some (.ext (NdAt P w M [])) := by rw [upd_ne nMD, upd_same]
  refine ⟨fun m σ H2 => ∃ (i : Nat) (n : Addr) (kvD : List (Key × V)), m = 30 - i /\ i <= 20 /\ σ = [some (.ref a), some (.ref M), some (.ref D), some (.ref n)] /\ Same H H2 /\ BDict P w H2 M ((List.range i).map fun j => (itB j k, V.bl true)) /\ H2 D = some (.dK kvD) /\ kvD.length <= i /\
    (∀ n : Int, (valV kvD (.inl n)).isSome = true ↔ ∃ j, j < i /\ n = (fdB (itB j k) : Int)) /\ KeyV H2 (itB i k) n /\ ∀ j1 j2, j1 < j2 -> j2 < i -> itB j1 k ≠ itB j2 k, ?_, ?_⟩
  ·refine ⟨30, 0, a, [], rfl, by decide, rfl, s2, dM.same (fun o e => ?_) (fun b ys e => ?_), upd_same, by decide, fun n => ?_, hk.same (same_tup s2), fun _ _ _ h => by omega⟩
   ·rw [upd_ne nMD]; exact e
   ·rw [upd_ne (ne_of_none e hD)]; exact e
   ·refine ⟨fun z => ?_, fun ⟨j, hj, _⟩ => by omega⟩
    cases z
  ·rintro m σ H2 ⟨i, n, kvD, rfl, hi, rfl, s3, dM3, hD3, lD, hv3, hk3, nd⟩
   refine ⟨_, rfl, _, rfl, M, n, _, _, rfl, rfl, dM3, hk3, _, rfl, ?_⟩
   have tl := st.tells_all i
   refine ite2 (fun h => ?_) (fun h => ?_)
   ·have hno : ¬ ∃ j, j < i /\ itB j k = itB i k := fun z => by
     rw [(seen_val k (itB i k) i).mpr z] at h
     cases h
    have hi19 : i <= 19 := by
     by_cases e : i = 20
     ·subst e
      exact absurd ⟨17, by decide, st.round.2.symm⟩ hno
     ·omega
    have hvn : valV ((List.range i).map fun j => (itB j k, V.bl true)) (itB i k) = none := by
     cases q : valV ((List.range i).map fun j => (itB j k, V.bl true)) (itB i k) with
     | none => rfl
     | some z => exact absurd ((seen_val k (itB i k) i).mp (by rw [q]; rfl)) hno
    refine ⟨fun σ' H' => ∃ (n : Addr) (kvD : List (Key × V)), σ' = [some (.ref a), some (.ref M), some (.ref D), some (.ref n)] /\ Same H H' /\ BDict P w H' M ((List.range (i + 1)).map fun j => (itB j k, V.bl true)) /\ H' D = some (.dK kvD) /\ kvD.length <= i + 1 /\
     (∀ n : Int, (valV kvD (.inl n)).isSome = true ↔ ∃ j, j < i + 1 /\ n = (fdB (itB j k) : Int)) /\ KeyV H' (itB (i + 1) k) n, ?_, ?_⟩
    ·rintro σ' H' ⟨n', kvD', e1, e2, e3, e4, e5, e6, e7⟩
     refine ⟨30 - (i + 1), by omega, i + 1, n', kvD', rfl, by omega, e1, e2, e3, e4, e5, e6, e7, fun j1 j2 h1 h2 => ?_⟩
     by_cases e : j2 = i
     ·subst e
      exact fun z => hno ⟨j1, h1, z⟩
     ·exact nd j1 j2 h1 (by omega)
    ·refine ⟨_, rfl, _, rfl, M, n, _, _, rfl, rfl, dM3, hk3, line_lt (by rw [List.length_map, List.length_range]; omega), fun xs dM4 => ?_⟩
     rw [putK_new _ hvn] at dM4
     obtain ⟨φ, hφ⟩ := dM3.here
     have mk : ∀ b o, H2 b = some o -> b ≠ M -> (upd H2 M (.ext (NdAt P w M xs))) b = some o := fun b o e hb => by rw [upd_ne hb]; exact e
     have mt : ∀ b ys, H2 b = some (.tup ys) -> (upd H2 M (.ext (NdAt P w M xs))) b = some (.tup ys) := fun b ys e => mk b _ e (ne_of e hφ (by intro z; cases z))
     have hk4 := hk3.same mt
     refine ⟨_, rfl, _, rfl, n, itB i k, rfl, hk4, tl.ne, D, _, rfl, DPut.k (k := Sum.inl _) (mk D _ hD3 nMD.symm) (line_lt (by omega)), ?_⟩
     have mk2 : ∀ b o, (upd H2 M (.ext (NdAt P w M xs))) b = some o -> b ≠ D -> (upd (upd H2 M (.ext (NdAt P w M xs))) D (.dK (putK kvD (Sum.inl (fdB (itB i k) : Int)) (V.bl true)))) b = some o := fun b o e hb => by rw [upd_ne hb]; exact e
     have mt2 : ∀ b ys, (upd H2 M (.ext (NdAt P w M xs))) b = some (.tup ys) -> (upd (upd H2 M (.ext (NdAt P w M xs))) D (.dK (putK kvD (Sum.inl (fdB (itB i k) : Int)) (V.bl true)))) b = some (.tup ys) := fun b ys e => mk2 b _ e (ne_of e (mk D _ hD3 nMD.symm) (by intro z; cases z))
     have hk5 := hk4.same mt2
     have dM5 := dM4.same (fun o e => mk2 M o e nMD) mt2
     refine ⟨_, rfl, n, itB i k, rfl, hk5, tl.ne, tl.le, fun n' H5 hn' hk' s5 => ?_⟩
     refine ⟨n', _, rfl, fun b o e => ?_, ?_, s5 D _ upd_same, ?_, fun z => ?_, ?_⟩
     ·have e2 := s3 b o e
      exact s5 b o (mk2 b o (mk b o e2 (fun z => by rw [z, hM] at e; cases e)) (fun z => by rw [z, s1.free hD] at e; cases e))
     ·have e9 : (List.range (i + 1)).map (fun j => (itB j k, V.bl true)) = (List.range i).map (fun j => (itB j k, V.bl true)) ++ [(itB i k, V.bl true)] := by rw [List.range_succ, List.map_append]; rfl
      rw [e9]
      exact dM5.same (fun o e => s5 M o e) fun b ys e => s5 b _ e
     ·have := length_putK kvD (Sum.inl (fdB (itB i k) : Int)) (V.bl true)
      omega
     ·rw [valV_put]
      by_cases ez : (Sum.inl z : Key) = Sum.inl (fdB (itB i k) : Int)
      ·rw [if_pos ez]
       injection ez with ez
       exact ⟨fun _ => ⟨i, by omega, ez⟩, fun _ => rfl⟩
      ·rw [if_neg ez, hv3 z]
       refine ⟨fun ⟨j, hj, e⟩ => ⟨j, by omega, e⟩, fun ⟨j, hj, e⟩ => ⟨j, ?_, e⟩⟩
       by_cases eji : j = i
       ·subst eji
        exact absurd (by rw [e]) ez
       ·omega
     ·rw [itB_succ]
      exact hk'
   ·have hyes : ∃ j, j < i /\ itB j k = itB i k := (seen_val k (itB i k) i).mp (by
     cases q : (valV ((List.range i).map fun j => (itB j k, V.bl true)) (itB i k)).isSome with
     | true => rfl
     | false => rw [q] at h; exact absurd rfl h)
    obtain ⟨j, hj, ej⟩ := hyes
    exact ⟨_, rfl, kQ D kvD H2 (s1.free hD) hD3 ⟨i, j, hj, ej.symm, hv3⟩ s3⟩
end
end RA
end
section
namespace RA
open PySem L2
open Rc75 (Row)
abbrev sPInit : Stmt := inClass (top 19) 0
abbrev sAhead : Stmt := inClass (top 19) 1
abbrev sPlaces : Stmt := inClass (top 19) 2
abbrev sParts : Stmt := inClass (top 19) 3
structure MDef (K : PySem.W.Frag) (C : Addr) (m qual : Str) (st : Stmt) (f : Addr) (fd : FuncData) (ps : List Str) : Prop where
 F : Fun K m qual st f fd
 me : Meth K C m f
 b : Binds K fd ps []
structure KTxt (K : PySem.W.Frag) (mg : Str -> Option Value) (C : Addr) : Prop where
 cl : Cls K C
 nK : NoAttr K C "known"
 mgC : mg "Parting" = some (.ref C)
def kf (d : Addr) : List (Str × V) := putF "known" (.ref d) []
theorem kf_get (d : Addr) : (kf d).lookup ("known" : Str) = some (.ref d) := by
 unfold kf
 rw [lookup_putF, if_pos rfl]
theorem kf_no (d : Addr) {m : Str} (h : ¬ m = "known") : (kf d).lookup m = none := by
 unfold kf
 rw [lookup_putF, if_neg h]
 all_goals rfl
structure PartAt (P : Program) (w : World) (C : Addr) (H : Hp) (q d : Addr) (y : Nat) : Prop where
 ob : ∃ dx, H q = some (.ins C dx (kf d))
 di : ∃ (kvs : List (BKey × V)) (Y : List BKey), BDict P w H d kvs /\ (∀ k v, (k, v) ∈ kvs -> ∃ D kv, v = .ref D /\ H D = some (.dK kv) /\ Ahead kv k) /\ (∀ k ∈ kvs.map (·.1), k ∈ Y \/ OldK k) /\ Y.length <= y
theorem PartAt.mono {P : Program} {w : World} {C : Addr} {H : Hp} {q d : Addr} {y z : Nat} (h : PartAt P w C H q d y) (l : y <= z) : PartAt P w C H q d z := by
 obtain ⟨ob, kvs, Y, h1, h2, h3, h4⟩ := h
 exact ⟨ob, kvs, Y, h1, h2, h3, Nat.le_trans h4 l⟩
theorem PartAt.keep {P : Program} {w : World} {C : Addr} {H H' : Hp} {q d : Addr} {y : Nat} (h : PartAt P w C H q d y) (k : ∀ b o, H b = some o -> (∀ xs, o ≠ .lst xs) -> (∀ kvs, o ≠ .dT kvs) -> (∀ ps, o ≠ .tbl ps) -> H' b = some o) : PartAt P w C H' q d y := by
 obtain ⟨⟨dx, ob⟩, kvs, Y, h1, h2, h3, h4⟩ := h
 obtain ⟨φ, hφ⟩ := h1.here
 have kd : ∀ o, H d = some o -> H' d = some o := fun o e => by
  rw [hφ] at e
  cases e
  exact k d _ hφ (by intro _ z; cases z) (by intro _ z; cases z) (by intro _ z; cases z)
 have kt : ∀ b ys, H b = some (.tup ys) -> H' b = some (.tup ys) := fun b ys e => k b _ e (by intro _ z; cases z) (by intro _ z; cases z) (by intro _ z; cases z)
 refine ⟨⟨dx, k q _ ob (by intro _ z; cases z) (by intro _ z; cases z) (by intro _ z; cases z)⟩, kvs, Y, h1.same kd kt, fun a v hv => ?_, h3, h4⟩
 obtain ⟨D, kv, e1, e2, e3⟩ := h2 a v hv
 exact ⟨D, kv, e1, k D _ e2 (by intro _ z; cases z) (by intro _ z; cases z) (by intro _ z; cases z), e3⟩
theorem PartAt.same {P : Program} {w : World} {C : Addr} {H H' : Hp} {q d : Addr} {y : Nat} (h : PartAt P w C H q d y) (s : Same H H') : PartAt P w C H' q d y := h.keep fun b o e _ _ _ => s b o e
theorem PartAt.lst {P : Program} {w : World} {C : Addr} {H H' : Hp} {q d z : Addr} {y : Nat} {xs : List V} (h : PartAt P w C H q d y) (hz : H z = some (.lst xs)) (k : But H H' z) : PartAt P w C H' q d y :=
 h.keep fun b o e n _ _ => k b o e fun zb => by
  rw [zb, hz] at e
  cases e
  exact n _ rfl
theorem PartAt.ext {P : Program} {w : World} {C : Addr} {H : Hp} {q d : Addr} {y : Nat} (h : PartAt P w C H q d y) : ∃ φ, H d = some (.ext φ) := let ⟨_, _, _, h1, _⟩ := h; h1.here
theorem But.refl (H : Hp) (z : Addr) : But H H z := fun _ _ e _ => e
theorem But.trans {H H1 H2 : Hp} {z : Addr} (a : But H H1 z) (b : But H1 H2 z) : But H H2 z := fun c o e n => b c o (a c o e n) n
theorem But.of {H H' : Hp} (z : Addr) (s : Same H H') : But H H' z := fun b o e _ => s b o e
theorem But.free {H H' : Hp} {z b : Addr} (k : But H H' z) (hb : H' b = none) (hz : ∃ o, H' z = some o) : H b = none := by
 cases q : H b with
 | none => rfl
 | some o =>
  by_cases e : b = z
  ·subst e
   obtain ⟨o', ho⟩ := hz
   rw [ho] at hb
   cases hb
  ·rw [k b o q e] at hb
   cases hb
theorem KB.keys {H : Hp} : ∀ {kvs : List (BKey × V)} {xs : List (BKey × Addr × Value)}, KB H kvs xs -> kvs.map (·.1) = xs.map (·.1)
 | _, _, .nil => rfl
 | _, _, .cons h t => by rw [List.map_cons, List.map_cons, KB.keys t, h.1]
def YMax : Nat := 9500000
def spPInit (P : Program) (w : World) (C : Addr) : Sp := fun vs H Q _ => ∃ (q dx : Addr), vs = [.ref q] /\ H q = some (.ins C dx []) /\ ∀ (d : Addr) (H' : Hp), H d = none -> PartAt P w C H' q d 0 -> But H H' q -> Q .non H'
def spAhead (P : Program) (w : World) (C : Addr) : Sp := fun vs H Q _ => ∃ (q d b : Addr) (k : BKey) (v : Row) (y y' : Nat), vs = [.ref q, .ref b] /\ PartAt P w C H q d y /\ KeyV H k b /\ Start k v /\ (OldK k /\ y' = y \/ y' = y + 1) /\ y' <= YMax /\
 ∀ (D : Addr) (kv : List (Key × V)) (H' : Hp), H' D = some (.dK kv) -> Ahead kv k -> PartAt P w C H' q d y' -> But H H' d -> Q (.ref D) H'
def nV (l : List Nat) : List V := l.map fun (n : Nat) => V.int (n : Int)
def Adds (l : Row) (y y' : Nat) : Prop := (OldR l /\ y' = y) \/ y' = y + (Rc75.runs l).length
def spPlaces (P : Program) (w : World) (K : PySem.W.Frag) (C : Addr) : Sp := fun vs H Q _ => ∃ (q d a : Addr) (l : Row) (y y' : Nat), vs = [.ref q, .ref a] /\ PartAt P w C H q d y /\ SqL K H a (rV l) /\ Plain l /\ l.length <= 16777216 /\ Adds l y y' /\ y' <= YMax /\
 ∀ (L : Addr) (H' : Hp), H L = none -> H' L = some (.lst (nV (Rc75.cutsOf l))) -> PartAt P w C H' q d y' -> But H H' d -> Q (.ref L) H'
section
variable {P : Program} {w : World} {K : PySem.W.Frag} {mg : Str -> Option Value} {base : Heap}
theorem scPInit : FnScope ["self"] ["self"] (defScope sPInit) := ⟨rfl, rfl, rfl, by decide +kernel, rfl, by decide +kernel, by decide +kernel⟩
theorem ok_pinit {f C : Addr} {fd : FuncData} (F : Fun K "__init__" "Parting.__init__" sPInit f fd) (T : KTxt K mg C) : FnOk P w K mg base CX0 1 f fd ["self"] (spPInit P w C) := by
 refine F.ok scPInit (fun vs H Q E h => ?_) (fun cdv A outer s H vs Q E hr h => ?_)
 ·obtain ⟨q, dx, rfl, _⟩ := h
  rfl
 ·obtain ⟨q, dx, rfl, hq, k⟩ := h
  refine ⟨_, pss_one (ps_fld (pv 0) pe_dnewB rfl), ?_⟩
  intro d hd dd
  have nqd : q ≠ d := ne_of_none hq hd
  refine ⟨_, rfl, q, C, dx, [], rfl, (by rw [upd_ne nqd]; exact hq), T.cl, T.nK, (by show 0 < 1000; decide), ?_⟩
  refine k d _ hd ⟨⟨dx, upd_same⟩, [], [], dd.same (fun o e => ?_) (fun b ys e => ?_), (fun _ _ h => by cases h), (fun _ h => by cases h), Nat.le_refl _⟩ fun b o e hb => ?_
  ·rw [upd_ne nqd.symm]; exact e
  ·have hb : b ≠ q := fun z => by
    rw [z, upd_ne nqd, hq] at e
    cases e
   rw [upd_ne hb]
   exact e
  ·rw [upd_ne hb, upd_ne (ne_of_none e hd)]
   exact e
theorem scAhead : FnScope ["self", "start"] ["self", "start"] (defScope sAhead) := ⟨rfl, rfl, rfl, by decide +kernel, rfl, by decide +kernel, by decide +kernel⟩
theorem ok_ahead {f C fD : Addr} {fd fdD : FuncData} (F : Fun K "digits_ahead" "Parting.digits_ahead" sAhead f fd) (T : KTxt K mg C) (DD : Def K mg "first_digits" sFirsts fD fdD ["start"]) (GD : FnOk P w K mg base CX0 3 fD fdD ["start"] spFirsts) :
  FnOk P w K mg base CX0 4 f fd ["self", "start"] (spAhead P w C) := by
 refine F.ok scAhead (fun vs H Q E h => ?_) (fun cdv A outer s H vs Q E hr h => ?_)
 ·obtain ⟨q, d, b, k, v, y, y', rfl, _⟩ := h
  rfl
 ·obtain ⟨q, d, b, k, v, y, y', rfl, hpart, hk, st, hy, hmax, kQ⟩ := h
  have hu3 : (A.deeper (PyProof.Rows.envOfC "Parting.digits_ahead" (defScope sAhead) s.heap.objs.size f cdv)).units + 3 < cLine := by have := hr.units; omega
  refine ⟨_, pss_cons (ps_if (pt_cmp (pc_bnotin hu3 (pv 1) (pe_fld (pv 0) rfl))) (pss_one (ps_bput hu3 (pe_fld (pv 0) rfl) (pv 1) (pe_call GD hr rfl DD.mg DD.F.kp DD.b .nil pass0 (pa_cons (pv 1) pa_nil)) rfl)) pss_nil)
   (pss_one (ps_ret (pe_bget hu3 (pe_fld (pv 0) rfl) (pv 1) (fun _ _ => rfl)))), ?_⟩
  have hpart0 := hpart
  obtain ⟨⟨dx, hq⟩, kvs, Y, dk, vals, young, ly⟩ := hpart
  have le : y <= y' := by rcases hy with ⟨_, z⟩ | z <;> omega
  refine ⟨_, rfl, _, rfl, q, C, dx, _, _, rfl, hq, T.cl, T.nK, kf_get _, d, b, kvs, k, rfl, rfl, dk, hk, _, rfl, ?_⟩
  cases ev : valV kvs k with
  | some z =>
   refine iteF ?_
   obtain ⟨p, hp, e2⟩ := Option.map_eq_some_iff.mp (show (kvs.find? fun kv => decide (kv.1 = k)).map (·.2) = some z from ev)
   have hm := List.mem_of_find?_eq_some hp
   have hpk : p.1 = k := of_decide_eq_true (List.find?_some (p := fun kv : BKey × V => decide (kv.1 = k)) hp)
   obtain ⟨D, kv, rfl, e4, e5⟩ := vals k z (by rw [<- hpk, <- e2]; exact hm)
   refine ⟨_, rfl, q, C, dx, _, _, rfl, hq, T.cl, T.nK, kf_get _, _, rfl, d, b, kvs, k, _, rfl, rfl, dk, hk, ev, ?_⟩
   exact kQ D kv H e4 e5 (hpart0.mono le) (But.refl H d)
  | none =>
   refine iteT ?_
   refine ⟨_, rfl, b, k, v, rfl, hk, st, fun D kv H1 hD h1 ah s1 => ?_⟩
   have hq1 := s1 _ _ hq
   have hk1 := hk.same (same_tup s1)
   have dk1 : BDict P w H1 d kvs := dk.same (fun o e => s1 d o e) (same_tup s1)
   have nd : (kvs.map (·.1)).Nodup := by
    obtain ⟨xs, _, rel, ndx⟩ := dk.ex
    rw [KB.keys rel]
    exact ndx
   have few := keys_few nd young
   rw [List.length_map] at few
   have lt : kvs.length < 16777216 := by
    have : YMax = 9500000 := rfl
    omega
   refine ⟨_, rfl, q, C, dx, _, _, rfl, hq1, T.cl, T.nK, kf_get _, _, rfl, d, b, kvs, k, rfl, rfl, dk1, hk1, line_lt lt, fun xs dk2 => ?_⟩
   have hd1 := dk1.here
   obtain ⟨φ, hφ⟩ := hd1
   have m2 : ∀ c o, H1 c = some o -> c ≠ d -> (upd H1 d (.ext (NdAt P w d xs))) c = some o := fun c o e hc => by rw [upd_ne hc]; exact e
   have nqd : q ≠ d := ne_of hq1 hφ (by intro z; cases z)
   have hk2 : KeyV (upd H1 d (.ext (NdAt P w d xs))) k b := hk1.same fun c ys e => m2 c _ e (ne_of e hφ (by intro z; cases z))
   have eput := putK_new (V.ref D) ev
   rw [eput] at dk2
   have ev2 : valV (kvs ++ [(k, V.ref D)]) k = some (V.ref D) := by
    rw [valV_snoc k k _ kvs ev, if_pos rfl]
   refine ⟨_, rfl, q, C, dx, _, _, rfl, m2 _ _ hq1 nqd, T.cl, T.nK, kf_get _, _, rfl, d, b, _, k, _, rfl, rfl, dk2, hk2, ev2, ?_⟩
   have nDd : D ≠ d := ne_of h1 hφ (by intro z; cases z)
   obtain ⟨Y', hY1, hY2, hY3⟩ : ∃ Y' : List BKey, (∀ k', k' ∈ Y -> k' ∈ Y') /\ (k ∈ Y' \/ OldK k) /\ Y'.length <= y' := by
    rcases hy with ⟨z1, z2⟩ | z
    ·exact ⟨Y, fun _ h => h, .inr z1, by omega⟩
    ·exact ⟨k :: Y, fun _ h => by simp [h], .inl (by simp), by rw [List.length_cons]; omega⟩
   refine kQ D kv _ (m2 _ _ h1 nDd) ah ⟨⟨dx, m2 _ _ hq1 nqd⟩, _, Y', dk2, fun k' v' hm => ?_, fun k' hm => ?_, hY3⟩ fun c o e hc => m2 c o (s1 c o e) hc
   ·rcases List.mem_append.mp hm with hm | hm
    ·obtain ⟨D', kv', e1, e2, e3⟩ := vals k' v' hm
     exact ⟨D', kv', e1, m2 _ _ (s1 _ _ e2) (ne_of (s1 _ _ e2) hφ (by intro z; cases z)), e3⟩
    ·simp at hm
     obtain ⟨rfl, rfl⟩ := hm
     exact ⟨D, kv, rfl, m2 _ _ h1 nDd, ah⟩
   ·rw [List.map_append, List.mem_append] at hm
    rcases hm with hm | hm
    ·exact (young k' hm).imp (hY1 k') id
    ·have hm : k' = k := by simpa using hm
     subst hm
     exact hY2
end
end RA
end
section
namespace RA
open PySem L2
open Rc75 (Row)
theorem cut_nine (xs : List V) (a : Nat) (h : a <= xs.length) : cutV xs (some (a : Int)) (some ((a + 9 : Nat) : Int)) = (xs.drop a).take 9 := by
 unfold cutV
 rw [HT.sIx_nat, HT.sIx_nat, Nat.min_eq_left h]
 by_cases h2 : a + 9 <= xs.length
 ·rw [Nat.min_eq_left h2, show a + 9 - a = 9 from by omega]
 ·rw [Nat.min_eq_right (by omega), List.take_of_length_le (by rw [List.length_drop]; exact Nat.le_refl _), List.take_of_length_le (by rw [List.length_drop]; omega)]
theorem Pairs.sub {H : Hp} {rs : List Addr} {ps : List (Nat × Nat)} (h : Pairs H rs ps) (a n : Nat) : Pairs H ((rs.drop a).take n) ((ps.drop a).take n) := by
 refine ⟨by simp [h.len], fun i b p h1 h2 => ?_⟩
 rw [List.getElem?_take] at h1 h2
 by_cases hi : i < n
 ·rw [if_pos hi, List.getElem?_drop] at h1 h2
  exact h.at_ (a + i) b p h1 h2
 ·rw [if_neg hi] at h1
  cases h1
section
variable {P : Program} {w : World} {K : PySem.W.Frag} {mg : Str -> Option Value} {base : Heap}
theorem scPlaces : FnScope ["self", "row", "found", "told", "place", "many", "before", "behind"] ["self", "row"] (defScope sPlaces) := ⟨rfl, rfl, rfl, by decide +kernel, rfl, by decide +kernel, by decide +kernel⟩
theorem ok_places {f C fR fB fA : Addr} {fd fdR fdG fdA : FuncData} (F : Fun K "places" "Parting.places" sPlaces f fd) (T : KTxt K mg C) (TT : Txt K mg) (TP : PTxt mg) (DR : Def K mg "runs" sRuns fR fdR ["row"]) (DB : Def K mg "beginning" sBeg fB fdG ["found", "whole"])
  (MA : MDef K C "digits_ahead" "Parting.digits_ahead" sAhead fA fdA ["self", "start"]) (GA : FnOk P w K mg base CX0 4 fA fdA ["self", "start"] (spAhead P w C)) : FnOk P w K mg base CX0 5 f fd ["self", "row"] (spPlaces P w K C) := by
 have GR : FnOk P w K mg base CX0 4 fR fdR ["row"] (spRuns K) := (ok_runs DR TT).mono (by decide)
 have GB : FnOk P w K mg base CX0 4 fB fdG ["found", "whole"] (spBeg K) := (ok_beg DB TT TP).mono (by decide)
 refine F.ok scPlaces (fun vs H Q E h => ?_) (fun cdv A outer s H vs Q E hr h => ?_)
 ·obtain ⟨q, d, a, l, y, y', rfl, _⟩ := h
  rfl
 ·obtain ⟨q, d, a, l, y, y', rfl, hpart, hS, hpl, hl, hadd, hmax, kQ⟩ := h
  refine ⟨_, pss_cons (ps_set (i := 2) scPlaces.nd rfl (Or.inl rfl) (pe_call GR hr rfl DR.mg DR.F.kp DR.b .nil pass0 (pa_cons (pv 1) pa_nil)))
   (pss_cons (ps_set (i := 3) scPlaces.nd rfl (Or.inl rfl) (pe_lst pa_nil))
   (pss_cons (ps_set (i := 4) scPlaces.nd rfl (Or.inl rfl) pe_int)
   (pss_cons (ps_for PassesOwn.never rfl (pi_range2 rfl TT.range (pa_cons pe_int (pa_cons (pe_callB call_len_seq (by rfl) TT.len PySem.boot_len (pa_cons (pv 2) pa_nil)) pa_nil))) (pg_name (i := 5) scPlaces.nd rfl (Or.inl rfl))
    (pss_cons (ps_set (i := 6) scPlaces.nd rfl (Or.inl rfl) (pe_ix ix_list (pv 2) (pe_op op_sub (pv 5) pe_int) (fun _ _ => rfl)))
    (pss_cons (ps_aug (i := 4) scPlaces.nd rfl (Or.inl rfl) (pe_ix ix_tup (pv 6) pe_int (fun _ _ => rfl)) ip_add)
    (pss_cons (ps_set (i := 7) scPlaces.nd rfl (Or.inl rfl) (pe_call GB hr rfl DB.mg DB.F.kp DB.b .nil pass0 (pa_cons (pe_slice sl_list (pv 2) (po_some (pv 5)) (po_some (pe_op op_add (pe_op op_add (pv 5) (pe_gi TP.sight)) pe_int))) (pa_cons pe_bl pa_nil))))
    (pss_one (ps_if (pt_cmp (pc_dnotin (hu_of hr) (pe_ix ix_tup (pv 6) pe_int (fun _ _ => rfl)) (pe_meth (pv 0) T.cl MA.me GA hr MA.b .nil pass0 (pa_cons (pv 7) pa_nil))))
     (pss_one (ps_expr (pe_bm PySem.F.plainAttrs_list PySem.F.slot_list_append PySem.F.type_list_append mt_append (pv 3) (pa_cons (pv 4) pa_nil)))) pss_nil))))))
   (pss_one (ps_ret (pv 3)))))), ?_⟩
  refine ⟨_, rfl, a, l, rfl, .inl hS, hl, fun R rs H1 hR h1 hp s1 => ?_⟩
  refine ⟨(by show 0 <= sizeLine; decide), fun L hL => ?_⟩
  have s2 : Same H (upd H1 L (.lst [])) := s1.trans (same_new hL)
  have nRL : R ≠ L := ne_of_none h1 hL
  have hR2 : (upd H1 L (.lst [])) R = some (.lst (rs.map V.ref)) := by rw [upd_ne nRL]; exact h1
  have lr : (rs.map V.ref).length = (Rc75.runs l).length := by rw [List.length_map, hp.len]
  have lrl := runs_length_le l
  refine ⟨_, rfl, R, _, rfl, .inl (SqL.of hR2), 1, _, rfl, ⟨by decide, by decide, by rw [lr]; omega, by rw [lr]; omega⟩, ?_⟩
  obtain ⟨dx, hq⟩ := hpart.ob
  obtain ⟨φ, hd⟩ := hpart.ext
  have en : ((((rs.map V.ref).length : Nat) : Int) - 1).toNat = (Rc75.runs l).length - 1 := by rw [lr]; omega
  rw [en]
  have hpart2 := hpart.same s2
  have nLd : L ≠ d := fun z => by rw [z, s1 d _ hd] at hL; cases hL
  have nRd : R ≠ d := fun z => by rw [z, hd] at hR; cases hR
  obtain ⟨g, g0, gs, gle⟩ : ∃ g : Nat -> Nat, g 0 = y /\ (∀ i, i + 1 < (Rc75.runs l).length -> (OldK (begAt l (i + 1)) /\ g (i + 1) = g i \/ g (i + 1) = g i + 1)) /\ ∀ i, i <= (Rc75.runs l).length -> g i <= y' := by
   rcases hadd with ⟨old, e⟩ | e
   ·exact ⟨fun _ => y, rfl, fun i hi => .inl ⟨old.key hi, rfl⟩, fun i _ => by show y <= y'; omega⟩
   ·exact ⟨fun i => y + i, rfl, fun i _ => .inr rfl, fun i hi => by show y + i <= y'; omega⟩
  refine for_range (lo := 1) (n := (Rc75.runs l).length - 1) (fun i σ H2 => ∃ (v5 v6 v7 : Option V), σ = [some (.ref q), some (.ref a), some (.ref R), some (.ref L), some (.int (offs l i : Int)), v5, v6, v7] /\ But H H2 d /\ H2 R = some (.lst (rs.map V.ref)) /\ Pairs H2 rs (Rc75.runs l) /\
    H2 L = some (.lst (nV ((List.range (offs l i + 1)).filter (cutP l)))) /\ PartAt P w C H2 q d (g i))
   ⟨none, none, none, rfl, But.of d s2, hR2, hp.same (fun b o _ e => by rw [upd_ne (ne_of_none e hL)]; exact e), by rw [filter_zero]; exact upd_same, by rw [g0]; exact hpart2⟩ ?_ ?_
  ·rintro i σ H2 hi ⟨v5, v6, v7, rfl, k2, hR3, hp3, hL3, hpart3⟩
   have hir : i < (Rc75.runs l).length := by omega
   have hi1 : i + 1 < (Rc75.runs l).length := by omega
   have ex : (Rc75.runs l)[i]? = some (Rc75.runs l)[i] := List.getElem?_eq_getElem hir
   have hrs : i < rs.length := by rw [hp.len]; exact hir
   have er : rs[i]? = some rs[i] := List.getElem?_eq_getElem hrs
   have htu := hp3.at_ i _ _ er ex
   have erV : (rs.map V.ref)[i]? = some (.ref rs[i]) := by rw [List.getElem?_map, er]; rfl
   obtain ⟨dx3, hq3⟩ := hpart3.ob
   obtain ⟨φ3, hd3⟩ := hpart3.ext
   refine ⟨_, rfl, _, rfl, _, _, rfl, rfl, R, _, _, _, rfl, rfl, SqL.of hR3, at_of (j := i) (by omega) erV, ?_⟩
   refine ⟨_, rfl, _, rfl, _, _, _, _, rfl, rfl, SqT.of htu, rfl, _, _, rfl, rfl, ?_⟩
   have eoff : (offs l i : Int) + ((Rc75.runs l)[i].1 : Int) = (offs l (i + 1) : Int) := by rw [offs_succ ex]; omega
   dsimp only
   rw [eoff]
   refine ⟨_, rfl, _, rfl, _, rfl, _, rfl, _, _, rfl, rfl, _, _, rfl, rfl, _, rfl, R, _, rfl, SqL.of hR3, fun N hN => ?_⟩
   have e9 : cutV (rs.map V.ref) (some (1 + (i : Int))) (some (1 + (i : Int) + 8 + 1)) = (((rs.drop (i + 1)).take 9).map V.ref) := by
    have := cut_nine (rs.map V.ref) (i + 1) (by rw [lr]; omega)
    rw [show ((i + 1 : Nat) : Int) = 1 + (i : Int) from by omega, show ((i + 1 + 9 : Nat) : Int) = 1 + (i : Int) + 8 + 1 from by omega] at this
    rw [this, List.map_take, List.map_drop]
   have s3 : Same H2 (upd H2 N (.lst (cutV (rs.map V.ref) (some (1 + (i : Int))) (some (1 + (i : Int) + 8 + 1))))) := same_new hN
   refine ⟨N, (rs.drop (i + 1)).take 9, ((Rc75.runs l).drop (i + 1)).take 9, true, rfl, SqL.of (by rw [upd_same, e9]), (hp3.sub (i + 1) 9).same (fun b o _ e => s3 b o e), fun b H4 hb hk4 s4 => ?_⟩
   have s24 : Same H2 H4 := s3.trans s4
   have hpart4 := hpart3.same s24
   refine ⟨_, rfl, _, _, _, _, rfl, rfl, SqT.of (s24 _ _ htu), rfl, _, rfl, q, dx3, _, rfl, s24 _ _ hq3, kf_no _ (by decide +kernel), _, rfl, ?_⟩
   have st := start_at hpl hi1
   refine ⟨q, d, b, begAt l (i + 1), _, g i, g (i + 1), rfl, hpart4, hk4, st, gs i hi1, Nat.le_trans (gle (i + 1) (by omega)) hmax, fun D kv H5 hD ah hpart5 k5 => ?_⟩
   refine ⟨D, _, rfl, DGet.k (k := Sum.inl _) hD, _, rfl, ?_⟩
   obtain ⟨i1, j1, hj1, ej1, hah⟩ := ah
   have hcut := cut_at hpl ex hi1 hj1 ej1
   have nLd2 : L ≠ d := nLd
   have hL5 : H5 L = some (.lst (nV ((List.range (offs l i + 1)).filter (cutP l)))) := k5 L _ (s24 _ _ hL3) nLd
   have k25 : But H H5 d := k2.trans ((But.of d s24).trans k5)
   have hR5 := k5 R _ (s24 _ _ hR3) nRd
   have hp5 : Pairs H5 rs (Rc75.runs l) := hp3.same fun c o hc e => by
    obtain ⟨xs, ex'⟩ := hp3.mem hc
    refine k5 c o (s24 c o e) fun z => ?_
    rw [z] at ex'
    rw [ex'] at hd3
    cases hd3
   have eL := filter_run ex
   refine ite2 (fun h => ?_) (fun h => ?_)
   ·have hc : cutP l (offs l (i + 1)) = true := hcut.mpr fun n hn z => by
     have := (hah (((Rc75.runs l)[i].2 : Nat) : Int)).mpr ⟨n, hn, by rw [z]⟩
     rw [this] at h
     cases h
    rw [if_pos hc] at eL
    have ll : (nV ((List.range (offs l i + 1)).filter (cutP l))).length < 16777216 := by
     unfold nV
     rw [List.length_map]
     have := List.length_filter_le (cutP l) (List.range (offs l i + 1))
     rw [List.length_range] at this
     have := offs_lt hir
     have hlt := offs_lt hi1
     have e2 := offs_succ ex
     have := (runs_ge _ (List.mem_of_getElem? ex)).1
     omega
    refine ⟨_, rfl, .inl ⟨rfl, _, SqL.of hL5⟩, _, rfl, L, _, _, rfl, rfl, hL5, line_lt ll, ?_⟩
    have m6 : ∀ c o, H5 c = some o -> c ≠ L -> (upd H5 L (.lst (nV ((List.range (offs l i + 1)).filter (cutP l)) ++ [V.int (offs l (i + 1) : Int)]))) c = some o := fun c o e hc' => by rw [upd_ne hc']; exact e
    refine ⟨_, _, _, rfl, fun c o e hc' => m6 c o (k25 c o e hc') (fun z => by rw [z, s1.free hL] at e; cases e), m6 _ _ hR5 nRL, hp5.same (fun c o hc' e => ?_), ?_, hpart5.lst hL5 (fun c o e hc' => m6 c o e hc')⟩
    ·obtain ⟨xs, ex'⟩ := hp5.mem hc'
     exact m6 c o e (ne_of ex' hL5 (by intro z; cases z))
    ·rw [upd_same, eL]
     unfold nV
     rw [List.map_append]
     rfl
   ·have hc : ¬ cutP l (offs l (i + 1)) = true := fun z => h (by
     have hn : (valV kv (Sum.inl (((Rc75.runs l)[i].2 : Nat) : Int))).isSome = false := by
      cases e : (valV kv (Sum.inl (((Rc75.runs l)[i].2 : Nat) : Int))).isSome with
      | false => rfl
      | true =>
       obtain ⟨n, hn, en'⟩ := (hah _).mp e
       exact absurd (show (Rc75.runs l)[i].2 = fdB (itB n (begAt l (i + 1))) by omega) (hcut.mp z n hn)
     show (!(valV kv (Sum.inl (((Rc75.runs l)[i].2 : Nat) : Int))).isSome) = true
     rw [hn]
     rfl)
    rw [if_neg hc, List.append_nil] at eL
    exact ⟨_, _, _, rfl, k25, hR5, hp5, by rw [eL]; exact hL5, hpart5⟩
  ·rintro σ H2 ⟨v5, v6, v7, rfl, k2, hR3, hp3, hL3, hpart3⟩
   have hcuts : Rc75.cutsOf l = (List.range (offs l ((Rc75.runs l).length - 1) + 1)).filter (cutP l) := by
    by_cases h0 : (Rc75.runs l).length = 0
    ·have el : l = [] := by
      rw [<- unr_runs l, List.length_eq_zero_iff.mp h0]
      rfl
     subst el
     rfl
    ·have hlt : (Rc75.runs l).length - 1 < (Rc75.runs l).length := by omega
     exact filter_last (List.getElem?_eq_getElem hlt) (by omega)
   rw [<- hcuts] at hL3
   exact ⟨_, rfl, kQ L H2 (s1.free hL) hL3 (hpart3.mono (gle _ (by omega))) k2⟩
end
end RA
end
section
namespace RA
open PySem L2
open Rc75 (Row)
inductive TupsV (H : Hp) : List Row -> List V -> Prop
 | nil : TupsV H [] []
 | cons {p : Row} {r : Addr} {ps : List Row} {vs : List V} : H r = some (.tup (rV p)) -> TupsV H ps vs -> TupsV H (p :: ps) (.ref r :: vs)
theorem TupsV.same {H H' : Hp} (ht : ∀ b ys, H b = some (.tup ys) -> H' b = some (.tup ys)) : ∀ {ps : List Row} {vs : List V}, TupsV H ps vs -> TupsV H' ps vs
 | _, _, .nil => .nil
 | _, _, .cons h t => .cons (ht _ _ h) (t.same ht)
theorem TupsV.snoc {H : Hp} {p : Row} {r : Addr} (h : H r = some (.tup (rV p))) : ∀ {ps : List Row} {vs : List V}, TupsV H ps vs -> TupsV H (ps ++ [p]) (vs ++ [.ref r])
 | _, _, .nil => .cons h .nil
 | _, _, .cons h1 t => .cons h1 (t.snoc h)
theorem TupsV.len {H : Hp} : ∀ {ps : List Row} {vs : List V}, TupsV H ps vs -> ps.length = vs.length
 | _, _, .nil => rfl
 | _, _, .cons _ t => by simp [t.len]
theorem TupsV.get {H : Hp} : ∀ {ps : List Row} {vs : List V} {i : Nat} {v : V}, TupsV H ps vs -> vs[i]? = some v -> ∃ p r, ps[i]? = some p /\ v = .ref r /\ H r = some (.tup (rV p))
 | _, _, _, _, .nil, h => by simp at h
 | _, _, 0, _, .cons h t, e => ⟨_, _, rfl, by simpa using e.symm, h⟩
 | _, _, i + 1, _, .cons h t, e => t.get (i := i) (by simpa using e)
theorem cut_slice (l : Row) {a b : Nat} (ha : a <= l.length) (hb : b <= l.length) : cutV (rV l) (some (a : Int)) (some (b : Int)) = rV ((l.drop a).take (b - a)) := by
 unfold cutV
 rw [HT.sIx_nat, HT.sIx_nat, rV_length, Nat.min_eq_left ha, Nat.min_eq_left hb]
 unfold rV
 rw [List.map_take, List.map_drop]
def spParts (P : Program) (w : World) (K : PySem.W.Frag) (C : Addr) : Sp := fun vs H Q _ => ∃ (q d a : Addr) (l : Row) (y y' : Nat), vs = [.ref q, .ref a] /\ PartAt P w C H q d y /\ SqL K H a (rV l) /\ Plain l /\ l.length <= 16777216 /\ Adds l y y' /\ y' <= YMax /\
 ∀ (L : Addr) (vs : List V) (H' : Hp), H L = none -> H' L = some (.lst vs) -> TupsV H' (partsOf l) vs -> PartAt P w C H' q d y' -> But H H' d -> Q (.ref L) H'
theorem But.seq {K : PySem.W.Frag} {H H' : Hp} {z c : Addr} {φ : Heap -> Prop} {xs : List V} (k : But H H' z) (hz : H z = some (.ext φ)) (h : SqL K H c xs) : SqL K H' c xs := by
 rcases h with (h | ⟨o, h⟩) | h
 ·exact .inl (.inl (k _ _ h (ne_of h hz (by intro z; cases z))))
 ·exact .inl (.inr ⟨o, k _ _ h (ne_of h hz (by intro z; cases z))⟩)
 ·exact .inr h
section
variable {P : Program} {w : World} {K : PySem.W.Frag} {mg : Str -> Option Value} {base : Heap}
theorem scParts : FnScope ["self", "row", "told", "start", "place"] ["self", "row"] (defScope sParts) := ⟨rfl, rfl, rfl, by decide +kernel, rfl, by decide +kernel, by decide +kernel⟩
theorem ok_parts {f C fP : Addr} {fd fdP : FuncData} (F : Fun K "parts" "Parting.parts" sParts f fd) (T : KTxt K mg C) (TT : Txt K mg) (TP : PTxt mg) (MP : MDef K C "places" "Parting.places" sPlaces fP fdP ["self", "row"])
  (GP : FnOk P w K mg base CX0 5 fP fdP ["self", "row"] (spPlaces P w K C)) : FnOk P w K mg base CX0 6 f fd ["self", "row"] (spParts P w K C) := by
 refine F.ok scParts (fun vs H Q E h => ?_) (fun cdv A outer s H vs Q E hr h => ?_)
 ·obtain ⟨q, d, a, l, y, y', rfl, _⟩ := h
  rfl
 ·obtain ⟨q, d, a, l, y, y', rfl, hpart, hS, hpl, hl, hadd, hmax, kQ⟩ := h
  refine ⟨_, pss_cons (ps_set (i := 2) scParts.nd rfl (Or.inl rfl) (pe_lst pa_nil))
   (pss_cons (ps_set (i := 3) scParts.nd rfl (Or.inl rfl) pe_int)
   (pss_cons (ps_for PassesOwn.never rfl (pi_list (pe_op op_cat (pe_meth (pv 0) T.cl MP.me GP hr MP.b .nil pass0 (pa_cons (pv 1) pa_nil)) (pe_lst (pa_cons (pe_callB call_len_seq (by rfl) TT.len PySem.boot_len (pa_cons (pv 1) pa_nil)) pa_nil)))) (pg_name (i := 4) scParts.nd rfl (Or.inl rfl))
    (pss_cons (ps_expr (pe_bm PySem.F.plainAttrs_list PySem.F.slot_list_append PySem.F.type_list_append mt_append (pv 2) (pa_cons (pe_callTy call_tuple_of (by rfl) TP.tuple PyProof.Rows.boot_tuple (pa_cons (pe_slice sl_list (pv 1) (po_some (pv 3)) (po_some (pv 4))) pa_nil)) pa_nil)))
     (pss_one (ps_set (i := 3) scParts.nd rfl (Or.inl rfl) (pv 4)))))
   (pss_one (ps_ret (pv 2))))), ?_⟩
  refine ⟨(by show 0 <= sizeLine; decide), fun T0 hT => ?_⟩
  have s1 : Same H (upd H T0 (.lst [])) := same_new hT
  obtain ⟨dx, hq⟩ := hpart.ob
  obtain ⟨φ, hd⟩ := hpart.ext
  have hpart1 := hpart.same s1
  refine ⟨_, rfl, q, dx, _, rfl, s1 _ _ hq, kf_no _ (by decide +kernel), _, rfl, ?_⟩
  refine ⟨q, d, a, l, y, y', rfl, hpart1, s1.seq hS, hpl, hl, hadd, hmax, fun L H2 hL hL2 hpart2 k2 => ?_⟩
  have hd1 := s1 _ _ hd
  have hS2 : SqL K H2 a (rV l) := k2.seq hd1 (s1.seq hS)
  refine ⟨_, rfl, a, _, rfl, .inl hS2, (by show 1 <= sizeLine; decide), fun N hN => ?_⟩
  have s3 : Same H2 (upd H2 N (.lst [V.int ((rV l).length : Int)])) := same_new hN
  have few := cuts_few l
  have lc : (nV (Rc75.cutsOf l)).length = (Rc75.cutsOf l).length := by unfold nV; rw [List.length_map]
  refine ⟨L, N, _, _, rfl, rfl, s3 _ _ hL2, upd_same, line_le (by rw [lc]; show _ + 1 <= _; omega), fun Z hZ => ?_⟩
  have s4 : Same H2 (upd (upd H2 N (.lst [V.int ((rV l).length : Int)])) Z (.lst (nV (Rc75.cutsOf l) ++ [V.int ((rV l).length : Int)]))) := s3.trans (same_new hZ)
  have eZ : nV (Rc75.cutsOf l) ++ [V.int ((rV l).length : Int)] = nV (cutEnds l) := by
   unfold cutEnds nV
   rw [List.map_append, rV_length]
   rfl
  rw [eZ] at s4 ⊢
  have nTd : T0 ≠ d := fun z => by rw [z, hd] at hT; cases hT
  have hT2 : H2 T0 = some (.lst []) := k2 _ _ upd_same nTd
  have k4 : But H (upd (upd H2 N (.lst [V.int ((rV l).length : Int)])) Z (.lst (nV (cutEnds l)))) d := ((But.of d s1).trans k2).trans (But.of d s4)
  have hpart4 := hpart2.same s4
  refine ⟨Z, rfl, ⟨_, SqL.of upd_same⟩, ?_⟩
  have lz : ((0 :: Rc75.cutsOf l).zip (cutEnds l)).length = (cutEnds l).length := by
   rw [List.length_zip]
   unfold cutEnds
   rw [List.length_cons, List.length_append]
   show min _ (_ + 1) = _ + 1
   omega
  have nTZ : T0 ≠ Z := ne_of_none (s3 _ _ hT2) hZ
  refine for_list (K := K) (a := Z) (xs := nV (cutEnds l)) (fun i σ H5 => ∃ (v : Option V) (vs : List V), σ = [some (.ref q), some (.ref a), some (.ref T0), some (.int (((0 :: cutEnds l).getD i 0 : Nat) : Int)), v] /\ But H H5 d /\ H5 Z = some (.lst (nV (cutEnds l))) /\ H5 T0 = some (.lst vs) /\ TupsV H5 ((partsOf l).take i) vs /\ PartAt P w C H5 q d y')
   ⟨none, [], rfl, k4, upd_same, s4 _ _ hT2, .nil, hpart4⟩ (fun i σ H5 _ ⟨_, _, _, _, hz, _⟩ => SqL.of hz) ?_ ?_
  ·rintro i v0 σ H5 hi ⟨v, vs, rfl, k5, hZ5, hT5, tv, hpart5⟩
   unfold nV at hi
   rw [List.getElem?_map] at hi
   cases et : (cutEnds l)[i]? with
   | none => rw [et] at hi; cases hi
   | some c =>
    rw [et] at hi
    obtain rfl : V.int (c : Int) = v0 := Option.some.inj hi
    have hic : i < (cutEnds l).length := (List.getElem?_eq_some_iff.mp et).1
    have hcl : c <= l.length := by
     have hm := List.mem_of_getElem? et
     unfold cutEnds at hm
     rcases List.mem_append.mp hm with z | z
     ·have := (cuts_lt z).2; omega
     ·have : c = l.length := by simpa using z
      omega
    obtain ⟨a0, ha0, ha1⟩ : ∃ a0, (0 :: Rc75.cutsOf l)[i]? = some a0 /\ (0 :: cutEnds l).getD i 0 = a0 := by
     have hlt : i < (0 :: Rc75.cutsOf l).length := by
      unfold cutEnds at hic
      rw [List.length_append] at hic
      rw [List.length_cons]
      exact hic
     refine ⟨(0 :: Rc75.cutsOf l)[i], List.getElem?_eq_getElem hlt, ?_⟩
     have : (0 :: cutEnds l) = (0 :: Rc75.cutsOf l) ++ [l.length] := rfl
     rw [this, List.getD_eq_getElem?_getD, List.getElem?_append_left hlt, List.getElem?_eq_getElem hlt]
     rfl
    have hal : a0 <= l.length := by
     have hm := List.mem_of_getElem? ha0
     rcases List.mem_cons.mp hm with z | z
     ·omega
     ·have := (cuts_lt z).2; omega
    have hS5 : SqL K H5 a (rV l) := k5.seq hd hS
    refine ⟨_, rfl, .inl ⟨rfl, _, SqL.of hT5⟩, _, rfl, _, rfl, _, rfl, _, rfl, _, rfl, a, _, rfl, hS5, fun M hM => ?_⟩
    rw [ha1, cut_slice l hal hcl]
    have s6 : Same H5 (upd H5 M (.lst (rV ((l.drop a0).take (c - a0))))) := same_new hM
    refine ⟨M, _, rfl, .inl ⟨SqL.of upd_same, fun t ht => ?_⟩⟩
    have s7 := s6.trans (same_new (o := .tup (rV ((l.drop a0).take (c - a0)))) ht)
    have hT7 := s7 _ _ hT5
    have lvs : vs.length = i := by
     rw [<- tv.len, List.length_take]
     unfold partsOf
     rw [List.length_map, lz]
     omega
    have hcl2 : (cutEnds l).length <= 16777216 := by
     unfold cutEnds
     rw [List.length_append]
     show _ + 1 <= _
     omega
    refine ⟨T0, _, _, rfl, rfl, hT7, line_lt (by omega), ?_⟩
    have m8 : ∀ b o, (upd (upd H5 M (.lst (rV ((l.drop a0).take (c - a0))))) t (.tup (rV ((l.drop a0).take (c - a0))))) b = some o -> b ≠ T0 -> (upd (upd (upd H5 M (.lst (rV ((l.drop a0).take (c - a0))))) t (.tup (rV ((l.drop a0).take (c - a0))))) T0 (.lst (vs ++ [.ref t]))) b = some o := fun b o e hb => by rw [upd_ne hb]; exact e
    refine ⟨_, rfl, some (.int (c : Int)), vs ++ [.ref t], ?_, fun b o e hb => m8 b o (s7 b o (k5 b o e hb)) (fun z => by rw [z, hT] at e; cases e), m8 _ _ (s7 _ _ hZ5) nTZ.symm, upd_same, ?_, (hpart5.same s7).lst hT7 (fun b o e hb => m8 b o e hb)⟩
    ·have : (0 :: cutEnds l).getD (i + 1) 0 = c := by
      rw [List.getD_eq_getElem?_getD, List.getElem?_cons_succ, et]
      rfl
     rw [this]
     rfl
    ·have ez : ((0 :: Rc75.cutsOf l).zip (cutEnds l))[i]? = some (a0, c) := by rw [List.getElem?_zip_eq_some]; exact ⟨ha0, et⟩
     have ep : (partsOf l)[i]? = some ((l.drop a0).take (c - a0)) := by
      unfold partsOf
      rw [List.getElem?_map, ez]
      rfl
     obtain ⟨hpl', epl⟩ := List.getElem?_eq_some_iff.mp ep
     rw [List.take_succ_eq_append_getElem hpl', epl]
     refine (tv.same fun b ys e => ?_).snoc ?_
     ·have e7 := s7 _ _ e
      exact m8 b _ e7 (ne_of e7 hT7 (by intro z; cases z))
     ·exact m8 t _ upd_same (ne_of upd_same hT7 (by intro z; cases z))
  ·rintro σ H5 ⟨v, vs, rfl, k5, hZ5, hT5, tv, hpart5⟩
   have : (partsOf l).take (nV (cutEnds l)).length = partsOf l := by
    refine List.take_of_length_le ?_
    unfold partsOf nV
    rw [List.length_map, List.length_map, lz]
    exact Nat.le_refl _
   rw [this] at tv
   exact ⟨_, rfl, kQ T0 vs H5 hT hT5 tv hpart5 k5⟩
end
end RA
end
section
namespace RA
open PySem L2
open Rc75 (Row)
abbrev sPartAt : Stmt := top 11
abbrev sFInit : Stmt := inClass (top 12) 0
abbrev sPLater : Stmt := inClass (top 12) 1
abbrev sByDay : Stmt := inClass (top 12) 2
abbrev sMDay : Stmt := inClass (top 12) 3
abbrev sSums : Stmt := inClass (top 12) 4
abbrev sMeas : Stmt := inClass (top 12) 5
abbrev sLenL : Stmt := inClass (top 12) 6
abbrev sOften : Stmt := inClass (top 12) 7
abbrev sDigitL : Stmt := inClass (top 12) 8
structure FTxt (K : PySem.W.Frag) (mg : Str -> Option Value) (C : Addr) : Prop where
 cl : Cls K C
 nP : NoAttr K C "parting"
 nK : NoAttr K C "known"
 mgC : mg "Future" = some (.ref C)
def nines : List Nat := [1, 2, 3, 4, 5, 6, 7, 8, 9]
def rowsOf : Nat -> List Row
 | 0 => [[]]
 | n + 1 => nines.flatMap fun a => (rowsOf n).map (a :: ·)
def shorts : List Row := rowsOf 0 ++ (rowsOf 1 ++ (rowsOf 2 ++ (rowsOf 3 ++ rowsOf 4)))
theorem mem_rowsOf : ∀ l : Row, (∀ x ∈ l, 1 <= x /\ x <= 9) -> l ∈ rowsOf l.length
 | [], _ => by simp [rowsOf]
 | a :: l, h => by
  refine List.mem_flatMap.mpr ⟨a, ?_, List.mem_map.mpr ⟨l, mem_rowsOf l fun x hx => h x (by simp [hx]), rfl⟩⟩
  have := h a (by simp)
  unfold nines
  simp
  omega
theorem mem_shorts {l : Row} (h : Plain l) (h4 : l.length <= 4) : l ∈ shorts := by
 have hm := mem_rowsOf l h.1
 unfold shorts
 rcases (show l.length = 0 \/ l.length = 1 \/ l.length = 2 \/ l.length = 3 \/ l.length = 4 by omega) with e | e | e | e | e <;> rw [e] at hm <;> simp [hm]
theorem rowsOf_len : ∀ n, (rowsOf n).length = 9 ^ n
 | 0 => rfl
 | n + 1 => by
  show (nines.flatMap fun a => (rowsOf n).map (a :: ·)).length = _
  rw [List.length_flatMap]
  simp only [List.length_map, rowsOf_len n, nines, List.map_cons, List.map_nil, List.sum_cons, List.sum_nil]
  rw [Nat.pow_succ]
  omega
theorem shorts_len : shorts.length = 7381 := by
 unfold shorts
 rw [List.length_append, List.length_append, List.length_append, List.length_append, rowsOf_len, rowsOf_len, rowsOf_len, rowsOf_len, rowsOf_len]
def kR (p : Row) : List Key := p.map fun (n : Nat) => Sum.inl (n : Int)
theorem kR_V (p : Row) : (kR p).map kV = rV p := by
 unfold kR rV
 rw [List.map_map]
 rfl
theorem kR_inj : ∀ {p q : Row}, kR p = kR q -> p = q
 | [], [], _ => rfl
 | [], _ :: _, e => by simp [kR] at e
 | _ :: _, [], e => by simp [kR] at e
 | a :: p, b :: q, e => by
  have e : (Sum.inl (a : Int) : Key) :: kR p = Sum.inl (b : Int) :: kR q := e
  injection e with e1 e2
  injection e1 with e1
  rw [kR_inj e2, show a = b from by omega]
theorem pk : ¬ (("parting" : Str) = "known") := by decide +kernel
def ff (q e : Addr) : List (Str × V) := putF "known" (.ref e) (putF "parting" (.ref q) [])
theorem ff_part (q e : Addr) : (ff q e).lookup ("parting" : Str) = some (.ref q) := by
 unfold ff
 rw [lookup_putF, if_neg pk, lookup_putF, if_pos rfl]
theorem ff_known (q e : Addr) : (ff q e).lookup ("known" : Str) = some (.ref e) := by
 unfold ff
 rw [lookup_putF, if_pos rfl]
theorem ff_no (q e : Addr) {m : Str} (h1 : ¬ m = "known") (h2 : ¬ m = "parting") : (ff q e).lookup m = none := by
 unfold ff
 rw [lookup_putF, if_neg h1, lookup_putF, if_neg h2]
 all_goals rfl
structure FutAt (P : Program) (w : World) (CF CP : Addr) (H : Hp) (f q d e : Addr) (y : Nat) (U : List Row) (Ls : List Addr) : Prop where
 ob : ∃ dx, H f = some (.ins CF dx (ff q e))
 part : PartAt P w CP H q d y
 di : ∃ kvs : List (List Key × V), H e = some (.dT kvs) /\ (kvs.map (·.1)).Nodup /\ ∀ k v, (k, v) ∈ kvs -> ∃ (p : Row) (L : Addr) (vs : List V), k = kR p /\ Plain p /\ v = .ref L /\ L ∈ Ls /\ H L = some (.lst vs) /\ TupsV H (partsOf (Rc75.aloud p)) vs /\ (p.length <= 4 \/ p ∈ U)
 lsH : ∀ L, L ∈ Ls -> ∃ vs, H L = some (.lst vs)
structure Fr2 (H H' : Hp) (d e : Addr) (Ls Ls' : List Addr) : Prop where
 keep : ∀ b o, H b = some o -> b ≠ d -> b ≠ e -> H' b = some o
 here : (∃ o, H' d = some o) /\ ∃ o, H' e = some o
 ls : ∀ L, L ∈ Ls' -> L ∈ Ls \/ H L = none
theorem Fr2.free {H H' : Hp} {d e b : Addr} {Ls Ls' : List Addr} (x : Fr2 H H' d e Ls Ls') (hb : H' b = none) : H b = none := by
 cases q : H b with
 | none => rfl
 | some o =>
  obtain ⟨⟨o1, h1⟩, o2, h2⟩ := x.here
  by_cases e1 : b = d
  ·rw [e1, h1] at hb; cases hb
  ·by_cases e2 : b = e
   ·rw [e2, h2] at hb; cases hb
   ·rw [x.keep b o q e1 e2] at hb; cases hb
theorem Fr2.trans {H H1 H2 : Hp} {d e : Addr} {L0 L1 L2 : List Addr} (a : Fr2 H H1 d e L0 L1) (b : Fr2 H1 H2 d e L1 L2) : Fr2 H H2 d e L0 L2 :=
 ⟨fun c o h n1 n2 => b.keep c o (a.keep c o h n1 n2) n1 n2, b.here, fun L h => (b.ls L h).elim (a.ls L) fun z => .inr (a.free z)⟩
theorem FutAt.here {P : Program} {w : World} {CF CP : Addr} {H : Hp} {f q d e : Addr} {y : Nat} {U : List Row} {Ls : List Addr} (h : FutAt P w CF CP H f q d e y U Ls) : (∃ φ, H d = some (.ext φ)) /\ ∃ kvs, H e = some (.dT kvs) :=
 ⟨h.part.ext, let ⟨kvs, h1, _⟩ := h.di; ⟨kvs, h1⟩⟩
theorem FutAt.mono {P : Program} {w : World} {CF CP : Addr} {H : Hp} {f q d e : Addr} {y z : Nat} {U W : List Row} {Ls : List Addr} (h : FutAt P w CF CP H f q d e y U Ls) (l : y <= z) (hU : ∀ p, p ∈ U -> p ∈ W) : FutAt P w CF CP H f q d e z W Ls := by
 obtain ⟨ob, part, ⟨kvs, h1, h2, h3⟩, hl⟩ := h
 refine ⟨ob, part.mono l, ⟨kvs, h1, h2, fun k v hm => ?_⟩, hl⟩
 obtain ⟨p, L, vs, e1, e2, e3, e4, e5, e6, e7⟩ := h3 k v hm
 exact ⟨p, L, vs, e1, e2, e3, e4, e5, e6, e7.imp id (hU p)⟩
theorem FutAt.keep {P : Program} {w : World} {CF CP : Addr} {H H' : Hp} {f q d e : Addr} {y : Nat} {U : List Row} {Ls : List Addr} (h : FutAt P w CF CP H f q d e y U Ls)
  (k : ∀ b o, H b = some o -> (∀ ps, o ≠ .tbl ps) -> (∀ xs, o = .lst xs -> b ∈ Ls) -> (∀ kvs, o = .dT kvs -> b = e) -> H' b = some o) : FutAt P w CF CP H' f q d e y U Ls := by
 obtain ⟨⟨dx, ob⟩, part, ⟨kvs, h1, h2, h3⟩, hls⟩ := h
 have kt : ∀ b ys, H b = some (.tup ys) -> H' b = some (.tup ys) := fun b ys x => k b _ x (by intro _ z; cases z) (by intro _ z; cases z) (by intro _ z; cases z)
 refine ⟨⟨dx, k f _ ob (by intro _ z; cases z) (by intro _ z; cases z) (by intro _ z; cases z)⟩, part.keep fun b o x n1 n2 n3 => k b o x n3 (fun xs z => absurd z (n1 xs)) fun kvs z => absurd z (n2 kvs), ⟨kvs, k e _ h1 (by intro _ z; cases z) (by intro _ z; cases z) (fun _ _ => rfl), h2, fun a v hm => ?_⟩, fun L hL => let ⟨vs, z⟩ := hls L hL; ⟨vs, k L _ z (by intro _ z; cases z) (fun _ _ => hL) (by intro _ z; cases z)⟩⟩
 obtain ⟨p, L, vs, e1, e2, e3, e4, e5, e6, e7⟩ := h3 a v hm
 exact ⟨p, L, vs, e1, e2, e3, e4, k L _ e5 (by intro _ z; cases z) (fun _ _ => e4) (by intro _ z; cases z), e6.same kt, e7⟩
theorem FutAt.same {P : Program} {w : World} {CF CP : Addr} {H H' : Hp} {f q d e : Addr} {y : Nat} {U : List Row} {Ls : List Addr} (h : FutAt P w CF CP H f q d e y U Ls) (s : Same H H') : FutAt P w CF CP H' f q d e y U Ls := h.keep fun b o x _ _ _ => s b o x
theorem FutAt.but {P : Program} {w : World} {CF CP : Addr} {H H' : Hp} {f q d e z : Addr} {y : Nat} {U : List Row} {Ls : List Addr} (h : FutAt P w CF CP H f q d e y U Ls) (k : But H H' z) (hz : (∃ xs, H z = some (.lst xs) /\ z ∉ Ls) \/ (∃ kvs, H z = some (.dT kvs) /\ z ≠ e) \/ ∃ ps, H z = some (.tbl ps)) : FutAt P w CF CP H' f q d e y U Ls :=
 h.keep fun b o x n1 n2 n3 => k b o x fun zb => by
  subst zb
  rcases hz with ⟨xs, h1, h2⟩ | ⟨kvs, h1, h2⟩ | ⟨ps, h1⟩
  ·rw [h1] at x; cases x; exact h2 (n2 xs rfl)
  ·rw [h1] at x; cases x; exact h2 (n3 kvs rfl)
  ·rw [h1] at x; cases x; exact n1 ps rfl
def UMax : Nat := 16000000
def spFInit (P : Program) (w : World) (CF CP : Addr) : Sp := fun vs H Q _ => ∃ (f q d dx : Addr) (y : Nat), vs = [.ref f, .ref q] /\ H f = some (.ins CF dx []) /\ PartAt P w CP H q d y /\
 ∀ (e : Addr) (H' : Hp), H e = none -> FutAt P w CF CP H' f q d e y [] [] -> But H H' f -> Q .non H'
def spPLater (P : Program) (w : World) (CF CP : Addr) : Sp := fun vs H Q _ => ∃ (f q d e t : Addr) (p : Row) (y y' : Nat) (U : List Row) (Ls : List Addr), vs = [.ref f, .ref t] /\ FutAt P w CF CP H f q d e y U Ls /\ H t = some (.tup (rV p)) /\ Plain p /\ p.length <= 16777216 /\ (Rc75.aloud p).length <= 16777216 /\
 Adds (Rc75.aloud p) y y' /\ y' <= YMax /\ U.length <= UMax /\ (p.length <= 4 \/ p ∈ U) /\
 ∀ (L : Addr) (vs : List V) (Ls' : List Addr) (H' : Hp), L ∈ Ls' -> H' L = some (.lst vs) -> TupsV H' (partsOf (Rc75.aloud p)) vs -> FutAt P w CF CP H' f q d e y' U Ls' -> Fr2 H H' d e Ls Ls' -> Q (.ref L) H'
section
variable {P : Program} {w : World} {K : PySem.W.Frag} {mg : Str -> Option Value} {base : Heap}
theorem scFInit : FnScope ["self", "parting"] ["self", "parting"] (defScope sFInit) := ⟨rfl, rfl, rfl, by decide +kernel, rfl, by decide +kernel, by decide +kernel⟩
theorem ok_finit {f C CP : Addr} {fd : FuncData} (F : Fun K "__init__" "Future.__init__" sFInit f fd) (T : FTxt K mg C) : FnOk P w K mg base CX0 1 f fd ["self", "parting"] (spFInit P w C CP) := by
 refine F.ok scFInit (fun vs H Q E h => ?_) (fun cdv A outer s H vs Q E hr h => ?_)
 ·obtain ⟨f', q, d, dx, y, rfl, _⟩ := h
  rfl
 ·obtain ⟨f', q, d, dx, y, rfl, hf, hpart, k⟩ := h
  refine ⟨_, pss_cons (ps_fld (pv 0) (pv 1) rfl) (pss_one (ps_fld (pv 0) pe_dnewT rfl)), ?_⟩
  refine ⟨_, rfl, _, rfl, f', C, dx, [], rfl, hf, T.cl, T.nP, (by show 0 < 1000; decide), ?_⟩
  intro e he
  have nfe : f' ≠ e := fun z => by rw [z, upd_same] at he; cases he
  have he0 : H e = none := by rw [upd_ne nfe.symm] at he; exact he
  refine ⟨_, rfl, f', C, dx, _, rfl, (by rw [upd_ne nfe, upd_same]), T.cl, T.nK, (by show 1 < 1000; decide), ?_⟩
  have kb : But H (upd (upd (upd H f' (.ins C dx (putF "parting" (.ref q) []))) e (.dT [])) f' (.ins C dx (putF "known" (.ref e) (putF "parting" (.ref q) [])))) f' := fun b o x hb => by
   rw [upd_ne hb, upd_ne (ne_of_none x he0), upd_ne hb]
   exact x
  obtain ⟨dq, hq⟩ := hpart.ob
  have nq : ∀ b o, H b = some o -> b = f' -> o = .ins C dx [] := fun b o x z => by rw [z, hf] at x; exact (Option.some.inj x).symm
  refine k e _ he0 ⟨⟨dx, upd_same⟩, ?_, ⟨[], by rw [upd_ne nfe.symm, upd_same], List.nodup_nil, fun _ _ h => by cases h⟩, fun _ h => by cases h⟩ kb
  have hqf : q ≠ f' := fun z => by
   have := nq q _ hq z
   injection this with _ _ z2
   have := congrArg List.length z2
   revert this
   show 1 = 0 -> False
   decide
  obtain ⟨_, kvs, Y, h1, h2, h3, h4⟩ := id hpart
  obtain ⟨φ, hφ⟩ := h1.here
  have ko : ∀ b o, H b = some o -> (∀ a b c, o ≠ .ins a b c) -> (upd (upd (upd H f' (.ins C dx (putF "parting" (.ref q) []))) e (.dT [])) f' (.ins C dx (putF "known" (.ref e) (putF "parting" (.ref q) [])))) b = some o := fun b o x n => kb b o x fun z => n _ _ _ (nq b o x z)
  refine ⟨⟨dq, kb _ _ hq hqf⟩, kvs, Y, h1.same (fun o x => ?_) (fun b ys x => ko b _ x (by intro _ _ _ z; cases z)), fun a v hm => ?_, h3, h4⟩
  ·rw [hφ] at x
   cases x
   exact ko _ _ hφ (by intro _ _ _ z; cases z)
  ·obtain ⟨D, kv, e1, e2, e3⟩ := h2 a v hm
   exact ⟨D, kv, e1, ko _ _ e2 (by intro _ _ _ z; cases z), e3⟩
theorem scPLater : FnScope ["self", "part"] ["self", "part"] (defScope sPLater) := ⟨rfl, rfl, rfl, by decide +kernel, rfl, by decide +kernel, by decide +kernel⟩
theorem ok_plater {f C CP fA fP : Addr} {fd fdA fdP : FuncData} (F : Fun K "parts_later" "Future.parts_later" sPLater f fd) (T : FTxt K mg C) (TK : KTxt K mg CP) (DA : Def K mg "read_aloud" sAloud fA fdA ["row"]) (GA : FnOk P w K mg base CX0 6 fA fdA ["row"] (spAloud K))
  (MP : MDef K CP "parts" "Parting.parts" sParts fP fdP ["self", "row"]) (GP : FnOk P w K mg base CX0 6 fP fdP ["self", "row"] (spParts P w K CP)) : FnOk P w K mg base CX0 7 f fd ["self", "part"] (spPLater P w C CP) := by
 refine F.ok scPLater (fun vs H Q E h => ?_) (fun cdv A outer s H vs Q E hr h => ?_)
 ·obtain ⟨f', q, d, e, t, p, y, y', U, Ls, rfl, _⟩ := h
  rfl
 ·obtain ⟨f', q, d, e, t, p, y, y', U, Ls, rfl, hfut, ht, hp, hl, hal, hadd, hy, hU, hpU, kQ⟩ := h
  refine ⟨_, pss_cons (ps_if (pt_cmp (pc_dnotin (hu_of hr) (pv 1) (pe_fld (pv 0) rfl)))
    (pss_one (ps_dput (hu_of hr) (pe_fld (pv 0) rfl) (pv 1) (pe_meth (pe_fld (pv 0) rfl) TK.cl MP.me GP hr MP.b .nil pass0 (pa_cons (pe_call GA hr rfl DA.mg DA.F.kp DA.b .nil pass0 (pa_cons (pv 1) pa_nil)) pa_nil)) rfl)) pss_nil)
   (pss_one (ps_ret (pe_dget (hu_of hr) (pe_fld (pv 0) rfl) (pv 1) (fun _ _ => rfl)))), ?_⟩
  have hfut0 := hfut
  obtain ⟨⟨dx, hf⟩, part, ⟨kvs, he, nd, vals⟩, lsH⟩ := hfut
  have ht' : H t = some (.tup ((kR p).map kV)) := by rw [kR_V]; exact ht
  have le : y <= y' := by rcases hadd with ⟨_, z⟩ | z <;> omega
  refine ⟨_, rfl, _, rfl, f', C, dx, _, _, rfl, hf, T.cl, T.nK, ff_known _ _, e, _, rfl, DGet.t he ht', _, rfl, ?_⟩
  cases ev : valV kvs (kR p) with
  | some z =>
   refine iteF ?_
   obtain ⟨x, hx, e2⟩ := Option.map_eq_some_iff.mp (show (kvs.find? fun kv => decide (kv.1 = kR p)).map (·.2) = some z from ev)
   have hm := List.mem_of_find?_eq_some hx
   have hxk : x.1 = kR p := of_decide_eq_true (List.find?_some (p := fun kv : List Key × V => decide (kv.1 = kR p)) hx)
   obtain ⟨p', L, vs, e3, e4, rfl, e6, e7, e8, e9⟩ := vals (kR p) z (by rw [<- hxk, <- e2]; exact hm)
   have := kR_inj e3
   subst this
   refine ⟨_, rfl, f', C, dx, _, _, rfl, hf, T.cl, T.nK, ff_known _ _, _, rfl, e, _, rfl, ev ▸ DGet.t he ht', ?_⟩
   exact kQ L vs Ls H e6 e7 e8 (hfut0.mono le fun _ h => h) ⟨fun b o x _ _ => x, ⟨let ⟨φ, h⟩ := part.ext; ⟨_, h⟩, _, he⟩, fun _ h => .inl h⟩
  | none =>
   refine iteT ?_
   obtain ⟨dq, hq⟩ := part.ob
   obtain ⟨φ, hd⟩ := part.ext
   refine ⟨_, rfl, f', C, dx, _, _, rfl, hf, T.cl, T.nP, ff_part _ _, q, dq, _, rfl, hq, kf_no _ (by decide +kernel), _, rfl, ?_⟩
   refine ⟨t, p, rfl, .inr (SqT.of ht), hl, hal, fun S H1 hS h1 s1 => ?_⟩
   refine ⟨q, d, S, Rc75.aloud p, y, y', rfl, part.same s1, SqL.of h1, hp.aloud, hal, hadd, hy, fun L vs H2 hL hL2 tv part2 k2 => ?_⟩
   have k02 : But H H2 d := (But.of d s1).trans k2
   have ned : e ≠ d := ne_of he hd (by intro z; cases z)
   have nfd : f' ≠ d := ne_of hf hd (by intro z; cases z)
   have ntd : t ≠ d := ne_of ht hd (by intro z; cases z)
   have he2 := k02 _ _ he ned
   have hf2 := k02 _ _ hf nfd
   have ht2 := k02 _ _ ht' ntd
   have few : kvs.length < 16777216 := by
    have h1 := nodup_le (l := kvs.map (·.1)) (m := (U ++ shorts).map kR) nd fun k hk => by
     obtain ⟨x, hx, rfl⟩ := List.mem_map.mp hk
     obtain ⟨p', L', vs', e3, e4, e5, e6, e7, e8, e9⟩ := vals x.1 x.2 hx
     rw [e3]
     refine List.mem_map_of_mem (List.mem_append.mpr ?_)
     rcases e9 with z | z
     ·exact .inr (mem_shorts e4 z)
     ·exact .inl z
    rw [List.length_map, List.length_map, List.length_append, shorts_len] at h1
    have : UMax = 16000000 := rfl
    omega
   refine ⟨_, rfl, f', C, dx, _, _, rfl, hf2, T.cl, T.nK, ff_known _ _, _, rfl, e, _, rfl, DPut.t he2 ht2 (line_lt few), ?_⟩
   have m3 : ∀ b o, H2 b = some o -> b ≠ e -> (upd H2 e (.dT (putK kvs (kR p) (V.ref L)))) b = some o := fun b o x hb => by rw [upd_ne hb]; exact x
   have nfe : f' ≠ e := ne_of hf he (by intro z; cases z)
   have nte : t ≠ e := ne_of ht he (by intro z; cases z)
   have nLe : L ≠ e := ne_of hL2 he2 (by intro z; cases z)
   have ev2 : valV (putK kvs (kR p) (V.ref L)) (kR p) = some (V.ref L) := by rw [valV_put, if_pos rfl]
   refine ⟨_, rfl, f', C, dx, _, _, rfl, m3 _ _ hf2 nfe, T.cl, T.nK, ff_known _ _, _, rfl, e, _, rfl, ev2 ▸ DGet.t upd_same (m3 _ _ ht2 nte), ?_⟩
   have mt : ∀ b ys, H2 b = some (.tup ys) -> (upd H2 e (.dT (putK kvs (kR p) (V.ref L)))) b = some (.tup ys) := fun b ys x => m3 b _ x (ne_of x he2 (by intro z; cases z))
   have m02 : ∀ b o, H b = some o -> b ≠ d -> b ≠ e -> (upd H2 e (.dT (putK kvs (kR p) (V.ref L)))) b = some o := fun b o x h1 h2 => m3 b o (k02 b o x h1) h2
   have hLn : H L = none := s1.free hL
   refine kQ L vs (L :: Ls) _ (by simp) (m3 _ _ hL2 nLe) (tv.same mt) ⟨⟨dx, m3 _ _ hf2 nfe⟩, part2.keep (fun b o x _ n2 _ => m3 b o x fun z => by rw [z, he2] at x; exact n2 _ (Option.some.inj x).symm), ⟨_, upd_same, nd_putK _ nd ev, fun k v hm => ?_⟩, fun L' h' => ?_⟩
    ⟨m02, ⟨let ⟨ψ, h⟩ := part2.ext; ⟨_, m3 _ _ h ned.symm⟩, _, upd_same⟩, fun L' h' => ?_⟩
   ·rw [putK_new _ ev] at hm
    rcases List.mem_append.mp hm with hm | hm
    ·obtain ⟨p', L', vs', e3, e4, e5, e6, e7, e8, e9⟩ := vals k v hm
     have nLd : L' ≠ d := ne_of e7 hd (by intro z; cases z)
     have nLe' : L' ≠ e := ne_of e7 he (by intro z; cases z)
     refine ⟨p', L', vs', e3, e4, e5, by simp [e6], m02 _ _ e7 nLd nLe', e8.same fun b ys x => m02 b _ x (ne_of x hd (by intro z; cases z)) (ne_of x he (by intro z; cases z)), e9⟩
    ·simp at hm
     obtain ⟨rfl, rfl⟩ := hm
     exact ⟨p, L, vs, rfl, hp, rfl, by simp, m3 _ _ hL2 nLe, tv.same mt, hpU⟩
   ·rcases List.mem_cons.mp h' with z | z
    ·rw [z]; exact ⟨_, m3 _ _ hL2 nLe⟩
    ·obtain ⟨vs', z'⟩ := lsH L' z
     exact ⟨vs', m02 _ _ z' (ne_of z' hd (by intro z; cases z)) (ne_of z' he (by intro z; cases z))⟩
   ·rcases List.mem_cons.mp h' with z | z
    ·rw [z]; exact .inr hLn
    ·exact .inl z
end
end RA
end
section
namespace RA
open PySem L2
open Rc75 (Row)
def ins1 (D : List Row) (p : Row) : List Row := if p ∈ D then D else D ++ [p]
def insAll (D ps : List Row) : List Row := ps.foldl ins1 D
theorem mem_ins1 {D : List Row} {p x : Row} : x ∈ ins1 D p ↔ x ∈ D \/ x = p := by
 unfold ins1
 by_cases h : p ∈ D
 ·rw [if_pos h]
  exact ⟨.inl, fun z => z.elim id fun e => e ▸ h⟩
 ·rw [if_neg h, List.mem_append, List.mem_singleton]
theorem mem_insAll {x : Row} : ∀ {ps D : List Row}, x ∈ insAll D ps ↔ x ∈ D \/ x ∈ ps
 | [], D => by simp [insAll]
 | p :: ps, D => by
  show x ∈ insAll (ins1 D p) ps ↔ _
  rw [mem_insAll, mem_ins1, List.mem_cons, or_assoc]
theorem nodup_ins1 {D : List Row} (h : D.Nodup) (p : Row) : (ins1 D p).Nodup := by
 unfold ins1
 by_cases hp : p ∈ D
 ·rw [if_pos hp]; exact h
 ·rw [if_neg hp, List.nodup_append]
  refine ⟨h, by simp, fun a ha b hb => ?_⟩
  have : b = p := by simpa using hb
  rw [this]
  exact fun z => hp (z ▸ ha)
theorem nodup_insAll : ∀ {ps D : List Row}, D.Nodup -> (insAll D ps).Nodup
 | [], _, h => h
 | p :: ps, D, h => nodup_insAll (ps := ps) (nodup_ins1 h p)
theorem insAll_append (D ps qs : List Row) : insAll D (ps ++ qs) = insAll (insAll D ps) qs := List.foldl_append
def tab (D : List Row) (g : Row -> V) : List (List Key × V) := D.map fun p => (kR p, g p)
theorem tab_any (D : List Row) (g : Row -> V) (p : Row) : ((tab D g).any fun kv => decide (kv.1 = kR p)) = decide (p ∈ D) := by
 unfold tab
 rw [List.any_map]
 by_cases h : p ∈ D
 ·rw [decide_eq_true h, List.any_eq_true]
  exact ⟨p, h, decide_eq_true rfl⟩
 ·rw [decide_eq_false h, List.any_eq_false]
  intro q hq z
  have := kR_inj (of_decide_eq_true z)
  exact h (this ▸ hq)
theorem put_tab (D : List Row) (g : Row -> V) (p : Row) : putK (tab D g) (kR p) (g p) = tab (ins1 D p) g := by
 unfold putK ins1
 rw [tab_any]
 by_cases h : p ∈ D
 ·rw [if_pos (decide_eq_true h), if_pos h]
  unfold tab
  rw [List.map_map]
  refine List.map_congr_left fun q _ => ?_
  show (if kR q = kR p then (kR q, g p) else (kR q, g q)) = (kR q, g q)
  by_cases e : kR q = kR p
  ·rw [if_pos e, kR_inj e]
  ·rw [if_neg e]
 ·rw [if_neg (by simp [h]), if_neg h]
  unfold tab
  rw [List.map_append]
  rfl
theorem val_tab {D : List Row} {g : Row -> V} {p : Row} (h : p ∈ D) : valV (tab D g) (kR p) = some (g p) := by
 unfold tab
 induction D with
 | nil => cases h
 | cons q D ih =>
  rw [List.map_cons]
  by_cases e : kR q = kR p
  ·rw [valV_pos (p := (kR q, g q)) e, kR_inj e]
  ·rw [valV_neg (p := (kR q, g q)) e]
   rcases List.mem_cons.mp h with z | z
   ·rw [z] at e; exact absurd rfl e
   ·exact ih z
theorem merge_tab (g : Row -> V) : ∀ (ps : List (Row × Addr)) (D : List Row), (ps.map fun x => (kR x.1, x.2, g x.1)).foldl (fun a p => putK a p.1 p.2.2) (tab D g) = tab (insAll D (ps.map (·.1))) g
 | [], D => rfl
 | x :: ps, D => by
  show (ps.map fun x => (kR x.1, x.2, g x.1)).foldl (fun a p => putK a p.1 p.2.2) (putK (tab D g) (kR x.1) (g x.1)) = tab (insAll (ins1 D x.1) (ps.map (·.1))) g
  rw [put_tab]
  exact merge_tab g ps (ins1 D x.1)
theorem mergeT_tab (g : Row -> V) (ps : List (Row × Addr)) : mergeT (ps.map fun x => (kR x.1, x.2, g x.1)) = tab (insAll [] (ps.map (·.1))) g := merge_tab g ps []
theorem KeysV.tups {H : Hp} {g : Row -> V} : ∀ {D : List Row} {ys : List V}, KeysV H (tab D g) ys -> TupsV H D ys
 | [], _, h => by cases h; exact .nil
 | p :: D, _, h => by
  cases h with
  | cons h1 h2 =>
   rw [kR_V] at h1
   exact .cons h1 (KeysV.tups h2)
theorem TupsV.refs {H : Hp} : ∀ {ps : List Row} {vs : List V}, TupsV H ps vs -> ∃ rs : List (Row × Addr), vs = rs.map (fun x => V.ref x.2) /\ ps = rs.map (·.1) /\ ∀ x ∈ rs, H x.2 = some (.tup (rV x.1))
 | _, _, .nil => ⟨[], rfl, rfl, fun _ h => by cases h⟩
 | _, _, .cons (p := p) (r := r) h t => by
  obtain ⟨rs, e1, e2, e3⟩ := t.refs
  refine ⟨(p, r) :: rs, by rw [e1]; rfl, by rw [e2]; rfl, fun x hx => ?_⟩
  rcases List.mem_cons.mp hx with z | z
  ·rw [z]; exact h
  ·exact e3 x z
def kids (p : Row) : List Row := partsOf (Rc75.aloud p)
def dayD : Nat -> List Row -> List Row
 | 0, ps => insAll [] ps
 | n + 1, ps => insAll [] ((dayD n ps).flatMap kids)
theorem mem_dayD : ∀ (n : Nat) (ps : List Row) (x : Row), x ∈ dayD n ps ↔ x ∈ dayParts n ps
 | 0, ps, x => by
  show x ∈ insAll [] ps ↔ x ∈ ps
  rw [mem_insAll]
  simp
 | n + 1, ps, x => by
  show x ∈ insAll [] ((dayD n ps).flatMap kids) ↔ _
  rw [mem_insAll, dayParts_succ]
  simp only [List.not_mem_nil, false_or, List.mem_flatMap, mem_dayD n ps]
  rfl
theorem nodup_dayD : ∀ (n : Nat) (ps : List Row), (dayD n ps).Nodup
 | 0, _ => nodup_insAll List.nodup_nil
 | _ + 1, _ => nodup_insAll List.nodup_nil
theorem sum_nodup {α : Type} [DecidableEq α] (f : α -> Nat) : ∀ {l m : List α}, l.Nodup -> (∀ x ∈ l, x ∈ m) -> (l.map f).sum <= (m.map f).sum
 | [], _, _, _ => Nat.zero_le _
 | x :: l, m, nd, s => by
  rw [List.nodup_cons] at nd
  have hx := s x (by simp)
  have ih := sum_nodup f (l := l) (m := m.erase x) nd.2 fun y hy => (List.mem_erase_of_ne (fun e : y = x => nd.1 (by rw [<- e]; exact hy))).mpr (s y (by simp [hy]))
  have hp : (m.map f).sum = f x + ((m.erase x).map f).sum := by
   clear ih s nd
   induction m with
   | nil => cases hx
   | cons a m ihm =>
    by_cases e : a = x
    ·subst e
     rw [List.erase_cons_head]
     rfl
    ·rw [List.erase_cons_tail (by simpa using e), List.map_cons, List.sum_cons, List.map_cons, List.sum_cons]
     have hm : x ∈ m := by
      rcases List.mem_cons.mp hx with z | z
      ·exact absurd z.symm e
      ·exact z
     rw [ihm hm]
     omega
  rw [List.map_cons, List.sum_cons, hp]
  omega
noncomputable def addR (l : Row) : Nat := open Classical in if OldR l then 0 else (Rc75.runs l).length
theorem addR_ok (l : Row) (y : Nat) : Adds l y (y + addR l) := by
 unfold addR
 by_cases h : OldR l
 ·rw [if_pos h]; exact .inl ⟨h, rfl⟩
 ·rw [if_neg h]; exact .inr rfl
noncomputable def addD (l : Row) : Nat -> Nat
 | 0 => 0
 | n + 1 => addD l n + addR (Rc75.later (n + 1) l)
theorem flat_runs (f : Row -> List (Nat × Nat)) : ∀ ps : List Row, (ps.flatMap f).length = (ps.map fun p => (f p).length).sum
 | [] => rfl
 | p :: ps => by rw [List.flatMap_cons, List.length_append, flat_runs f ps]; rfl
theorem add_day {l : Row} (hp : Plain l) (n : Nat) : ((dayD n (partsOf l)).map fun p => addR (Rc75.aloud p)).sum <= addR (Rc75.later (n + 1) l) := by
 have S := (spl_parts hp).day hp n
 have e : Rc75.runs (Rc75.later (n + 1) l) = (dayParts n (partsOf l)).flatMap fun p => Rc75.runs (Rc75.aloud p) := by rw [later_succ]; exact S 1
 by_cases h : OldR (Rc75.later (n + 1) l)
 ·have hz : ∀ p ∈ dayD n (partsOf l), addR (Rc75.aloud p) = 0 := fun p hm => by
   have ho : OldR (Rc75.aloud p) := S.old (n := 1) (by show OldR (Rc75.later 1 (Rc75.later n l)); rw [<- later_add]; exact h) p ((mem_dayD _ _ _).mp hm)
   unfold addR
   rw [if_pos ho]
  have : ((dayD n (partsOf l)).map fun p => addR (Rc75.aloud p)).sum = 0 := by
   revert hz
   generalize dayD n (partsOf l) = D
   intro hz
   induction D with
   | nil => rfl
   | cons p D ih => rw [List.map_cons, List.sum_cons, hz p (by simp), ih fun x hx => hz x (by simp [hx])]
  omega
 ·have e2 : addR (Rc75.later (n + 1) l) = (Rc75.runs (Rc75.later (n + 1) l)).length := by unfold addR; rw [if_neg h]
  rw [e2, e, flat_runs]
  refine Nat.le_trans ?_ (sum_nodup (fun p => (Rc75.runs (Rc75.aloud p)).length) (nodup_dayD n (partsOf l)) fun x hx => (mem_dayD _ _ _).mp hx)
  generalize dayD n (partsOf l) = D
  induction D with
  | nil => exact Nat.le_refl _
  | cons p D ih =>
   rw [List.map_cons, List.sum_cons, List.map_cons, List.sum_cons]
   have : addR (Rc75.aloud p) <= (Rc75.runs (Rc75.aloud p)).length := by
    unfold addR
    split <;> omega
   omega
theorem part_len {l : Row} {ps : List Row} (h : Spl l ps) (n : Nat) {p : Row} (hm : p ∈ ps) : (Rc75.later n p).length <= (Rc75.later n l).length := by
 obtain ⟨a, b, e⟩ := List.append_of_mem hm
 have e1 := h.rows n
 rw [e, List.flatMap_append, List.flatMap_cons] at e1
 rw [e1, List.length_append, List.length_append]
 omega
end RA
end
section
namespace RA
open PySem L2
open Rc75 (Row)
inductive LstsV (H : Hp) : List (List Row) -> List V -> Prop
 | nil : LstsV H [] []
 | cons {D : List Row} {L : Addr} {ws : List V} {Ds : List (List Row)} {vs : List V} : H L = some (.lst ws) -> TupsV H D ws -> LstsV H Ds vs -> LstsV H (D :: Ds) (.ref L :: vs)
theorem LstsV.len {H : Hp} : ∀ {Ds : List (List Row)} {vs : List V}, LstsV H Ds vs -> Ds.length = vs.length
 | _, _, .nil => rfl
 | _, _, .cons _ _ t => by simp [t.len]
theorem LstsV.same {H H' : Hp} : ∀ {Ds : List (List Row)} {vs : List V}, (∀ b o, H b = some o -> (∃ xs, o = .tup xs) \/ (∃ xs, o = .lst xs) /\ V.ref b ∈ vs -> H' b = some o) -> LstsV H Ds vs -> LstsV H' Ds vs
 | _, _, _, .nil => .nil
 | _, _, k, .cons h1 h2 t => .cons (k _ _ h1 (.inr ⟨⟨_, rfl⟩, by simp⟩)) (h2.same fun b ys e => k b _ e (.inl ⟨_, rfl⟩)) (t.same fun b o e z => k b o e (z.imp id fun ⟨z1, z2⟩ => ⟨z1, by simp [z2]⟩))
theorem LstsV.snoc {H : Hp} {D : List Row} {L : Addr} {ws : List V} (h1 : H L = some (.lst ws)) (h2 : TupsV H D ws) : ∀ {Ds : List (List Row)} {vs : List V}, LstsV H Ds vs -> LstsV H (Ds ++ [D]) (vs ++ [.ref L])
 | _, _, .nil => .cons h1 h2 .nil
 | _, _, .cons g1 g2 t => .cons g1 g2 (t.snoc h1 h2)
theorem LstsV.get {H : Hp} : ∀ {Ds : List (List Row)} {vs : List V} {i : Nat} {D : List Row}, LstsV H Ds vs -> Ds[i]? = some D -> ∃ L ws, vs[i]? = some (.ref L) /\ H L = some (.lst ws) /\ TupsV H D ws
 | _, _, _, _, .nil, e => by simp at e
 | _, _, 0, _, .cons g1 g2 t, e => by
  have := Option.some.inj (show some _ = some _ from e)
  subst this
  exact ⟨_, _, rfl, g1, g2⟩
 | _, _, i + 1, _, .cons g1 g2 t, e => by
  obtain ⟨L, ws, h1, h2⟩ := t.get (i := i) (by simpa using e)
  exact ⟨L, ws, by simpa using h1, h2⟩
structure Look15 (l : Row) (n : Nat) (U : List Row) (y : Nat) : Prop where
 pl : Plain l
 n15 : n <= 15
 sz : ∀ k, k <= n -> (Rc75.later k l).length <= 16777216
 cov : ∀ k, k <= n -> ∀ p, p ∈ dayParts k (partsOf l) -> p.length <= 4 \/ p ∈ U
 fewU : U.length <= UMax
 yes : y + addD l n <= YMax
def Ds (l : Row) (n : Nat) : List (List Row) := (List.range (n + 1)).map fun k => dayD k (partsOf l)
def spByDay (P : Program) (w : World) (CF CP : Addr) : Sp := fun vs H Q _ => ∃ (f q d e A : Addr) (l : Row) (n y : Nat) (U : List Row) (Ls : List Addr) (ws : List V), vs = [.ref f, .ref A, .int (n : Int)] /\ FutAt P w CF CP H f q d e y U Ls /\ H A = some (.lst ws) /\ TupsV H (partsOf l) ws /\ Look15 l n U y /\
 ∀ (T : Addr) (vs : List V) (Ls' : List Addr) (H' : Hp), H T = none -> T ∉ Ls' -> H' T = some (.lst vs) -> LstsV H' (Ds l n) vs -> V.ref T ∉ vs -> FutAt P w CF CP H' f q d e (y + addD l n) U Ls' -> Fr2 H H' d e Ls Ls' -> Q (.ref T) H'
theorem few_rows {D U : List Row} (nd : D.Nodup) (hU : U.length <= UMax) (h : ∀ p ∈ D, Plain p /\ (p.length <= 4 \/ p ∈ U)) : D.length < 16777216 := by
 have h1 := nodup_le (l := D) (m := U ++ shorts) nd fun p hp => by
  obtain ⟨h1, h2⟩ := h p hp
  refine List.mem_append.mpr ?_
  rcases h2 with z | z
  ·exact .inr (mem_shorts h1 z)
  ·exact .inl z
 rw [List.length_append, shorts_len] at h1
 have : UMax = 16000000 := rfl
 omega
theorem Look15.rows {l : Row} {n y : Nat} {U : List Row} (x : Look15 l n U y) {k : Nat} (hk : k <= n) : ∀ p ∈ dayD k (partsOf l), Plain p /\ (p.length <= 4 \/ p ∈ U) := fun p hp => by
 have hm := (mem_dayD _ _ _).mp hp
 exact ⟨((spl_parts x.pl).day x.pl k).plain (x.pl.later k) p hm, x.cov k hk p hm⟩
theorem Look15.len {l : Row} {n y : Nat} {U : List Row} (x : Look15 l n U y) {k : Nat} (hk : k <= n) {p : Row} (hp : p ∈ dayD k (partsOf l)) : p.length <= 16777216 := by
 have := part_len ((spl_parts x.pl).day x.pl k) 0 ((mem_dayD _ _ _).mp hp)
 exact Nat.le_trans this (x.sz k hk)
theorem Look15.next {l : Row} {n y : Nat} {U : List Row} (x : Look15 l n U y) {k : Nat} (hk : k < n) {p : Row} (hp : p ∈ dayD k (partsOf l)) : (Rc75.aloud p).length <= 16777216 := by
 have h1 := part_len ((spl_parts x.pl).day x.pl k) 1 ((mem_dayD _ _ _).mp hp)
 rw [<- later_add] at h1
 exact Nat.le_trans h1 (x.sz (k + 1) (by omega))
section
variable {P : Program} {w : World} {K : PySem.W.Frag} {mg : Str -> Option Value} {base : Heap}
theorem scByDay : FnScope ["self", "parts", "days", "part", "told", "day", "met", "child"] ["self", "parts", "days"] (defScope sByDay) := ⟨rfl, rfl, rfl, by decide +kernel, rfl, by decide +kernel, by decide +kernel⟩
theorem ok_byday {f C CP fL : Addr} {fd fdL : FuncData} (F : Fun K "parts_by_day" "Future.parts_by_day" sByDay f fd) (T : FTxt K mg C) (TT : Txt K mg) (hdict : mg "dict" = none) (ML : MDef K C "parts_later" "Future.parts_later" sPLater fL fdL ["self", "part"])
  (GL : FnOk P w K mg base CX0 7 fL fdL ["self", "part"] (spPLater P w C CP)) : FnOk P w K mg base CX0 8 f fd ["self", "parts", "days"] (spByDay P w C CP) := by
 refine F.ok scByDay (fun vs H Q E h => ?_) (fun cdv A outer s H vs Q E hr h => ?_)
 ·obtain ⟨f', q, d, e, A', l, n, y, U, Ls, ws, rfl, _⟩ := h
  rfl
 ·obtain ⟨f', q, d, e, A', l, n, y, U, Ls, ws, rfl, hfut, hA, tv, L15, kQ⟩ := h
  have hu2 : (A.deeper (PyProof.Rows.envOfC "Future.parts_by_day" (defScope sByDay) s.heap.objs.size f cdv)).units + 2 < cLine := by have := hr.units; omega
  refine ⟨_, pss_cons (ps_set (i := 4) scByDay.nd rfl (Or.inl rfl) (pe_lst (pa_cons (pe_callTy (call_listDT rfl) (by rfl) TT.list PyProof.Rows.boot_list (pa_cons
    (pe_callTy (call_dictT hu2 rfl) (by rfl) hdict PyProof.Rows.boot_dict (pa_cons
     (pe_lc (own := [("part", 3)]) (g := gName 3) (te := tTup (tCons (tVar 3) (tCons (tC (.bl true)) tNil))) rfl scByDay.nd (pi_list (pv 1)) (blkOk_by (by kernel_rfl))
      (fun _ _ _ _ _ => by exact pg_name (i := 3) scByDay.nd rfl (Or.inl rfl)) (fun _ _ _ _ _ => pts_nil) (fun _ _ _ _ _ => by exact pe_tup (pa_cons (pv 3) (pa_cons pe_bl pa_nil)))) pa_nil)) pa_nil)) pa_nil)))
   (pss_cons (ps_for PassesOwn.never rfl (pi_range1 rfl TT.range (pa_cons (pv 2) pa_nil)) (pg_name (i := 5) scByDay.nd rfl (Or.inl rfl))
    (pss_cons (ps_set (i := 6) scByDay.nd rfl (Or.inl rfl) pe_dnewT)
    (pss_cons (ps_for PassesOwn.never rfl (pi_list (pe_ix ix_list (pv 4) (pv 5) (fun _ _ => rfl))) (pg_name (i := 3) scByDay.nd rfl (Or.inl rfl))
     (pss_one (ps_for PassesOwn.never rfl (pi_list (pe_meth (pv 0) T.cl ML.me GL hr ML.b .nil pass0 (pa_cons (pv 3) pa_nil))) (pg_name (i := 7) scByDay.nd rfl (Or.inl rfl))
      (pss_one (ps_dput (hu_of hr) (pv 6) (pv 7) pe_bl rfl)))))
    (pss_one (ps_expr (pe_bm PySem.F.plainAttrs_list PySem.F.slot_list_append PySem.F.type_list_append mt_append (pv 4) (pa_cons (pe_callTy (call_listDT rfl) (by rfl) TT.list PyProof.Rows.boot_list (pa_cons (pv 6) pa_nil)) pa_nil)))))))
   (pss_one (ps_ret (pv 4)))), ?_⟩
  obtain ⟨rs, ews, eps, hrs⟩ := tv.refs
  subst ews
  have lrs : rs.length = (partsOf l).length := by rw [eps, List.length_map]
  have lA : (rs.map fun x => V.ref x.2).length <= 16777216 := by
   rw [List.length_map, lrs]
   have := cuts_few l
   have h0 := L15.sz 0 (Nat.zero_le _)
   have h0 : l.length <= 16777216 := h0
   unfold partsOf cutEnds
   rw [List.length_map, List.length_zip, List.length_cons, List.length_append]
   show min _ (_ + 1) <= _
   by_cases hl0 : l.length = 0
   ·rw [hl0] at this; omega
   ·omega
  refine ⟨_, rfl, A', rfl, ⟨_, SqL.of hA⟩, fun Dl hDl => ?_⟩
  refine lc_list (K := K) (a := A') (xs := rs.map fun x => V.ref x.2) (fun i H2 => Same H H2 /\ ∃ ts : List Addr, H2 Dl = some (.lst (ts.map V.ref)) /\ ts.length = i /\ Paired (fun (p : Addr) (q : List Key × Addr × V) => SqT K H2 p [.ref q.2.1, q.2.2] /\ H2 q.2.1 = some (.tup (q.1.map kV))) ts ((rs.take i).map fun x => (kR x.1, x.2, V.bl true)))
   ⟨same_new hDl, [], upd_same, rfl, .nil⟩ (fun i H2 _ z => SqL.of (z.1 _ _ hA)) ?_ ?_
  ·rintro i x H2 hi ⟨s2, ts, hD2, lt, pr⟩
   rw [List.getElem?_map] at hi
   cases et : rs[i]? with
   | none => rw [et] at hi; cases hi
   | some z =>
    rw [et] at hi
    obtain rfl : V.ref z.2 = x := Option.some.inj hi
    have hil : i < rs.length := (List.getElem?_eq_some_iff.mp et).1
    refine ⟨rfl, ?_⟩
    unfold tYes
    dsimp only
    rw [if_pos rfl]
    refine ⟨_, rfl, (by show 2 <= sizeLine; decide), fun t ht => ?_⟩
    have s3 : Same H2 (upd H2 t (.tup [V.ref z.2, V.bl true])) := same_new ht
    have hD3 := s3 _ _ hD2
    refine ⟨_, hD3, line_lt (by rw [List.length_map, lt]; rw [List.length_map] at lA; omega), fun b o x => ?_, ts ++ [t], by rw [upd_same, List.map_append]; rfl, by rw [List.length_append, lt]; rfl, ?_⟩
    ·rw [upd_ne (ne_of_none x hDl)]
     exact s3 _ _ (s2 _ _ x)
    ·have m4 : ∀ b xs, (upd H2 t (.tup [V.ref z.2, V.bl true])) b = some (.tup xs) -> (upd (upd H2 t (.tup [V.ref z.2, V.bl true])) Dl (.lst (ts.map V.ref ++ [V.ref t]))) b = some (.tup xs) := fun b xs x => by rw [upd_ne (ne_of x hD3 (by intro z; cases z))]; exact x
     have hz := hrs z (List.mem_of_getElem? et)
     obtain ⟨hl', el⟩ := List.getElem?_eq_some_iff.mp et
     rw [List.take_succ_eq_append_getElem hl', el, List.map_append]
     refine Paired.snoc (Paired.mapP pr fun a b ⟨q1, q2⟩ => ⟨?_, m4 _ _ (s3 _ _ q2)⟩) ⟨SqT.of (m4 _ _ upd_same), ?_⟩
     ·rcases q1 with (q1 | ⟨o, q1⟩) | q1
      ·exact .inl (.inl (m4 _ _ (s3 _ _ q1)))
      ·refine .inl (.inr ⟨o, ?_⟩)
       rw [upd_ne (ne_of (s3 _ _ q1) hD3 (by intro z; cases z))]
       exact s3 _ _ q1
      ·exact .inr q1
     ·refine m4 _ _ (s3 _ _ (s2 _ _ ?_))
      rw [kR_V]
      exact hz
  rintro H2 ⟨s2, ts, hD2, lt, pr⟩
  rw [List.length_map, List.take_length] at pr
  refine ⟨Dl, ts, _, rfl, SqL.of hD2, pr, fun M0 hM0 => ?_⟩
  rw [mergeT_tab (fun _ => V.bl true) rs, <- eps]
  have s3 := s2.trans (same_new (o := .dT (tab (insAll [] (partsOf l)) fun _ => V.bl true)) hM0)
  refine ⟨M0, _, rfl, upd_same, fun L0 ys hL0 hk => ?_⟩
  have tv0 := hk.tups
  have s4 := s3.trans (same_new (o := .lst ys) hL0)
  refine ⟨(by show 1 <= sizeLine; decide), fun T0 hT0 => ?_⟩
  have s5 := s4.trans (same_new (o := .lst [V.ref L0]) hT0)
  have hT0n : H T0 = none := s4.free hT0
  have hfut5 := hfut.same s5
  obtain ⟨⟨φ, hd⟩, kvs0, he⟩ := hfut.here
  have nL0T : L0 ≠ T0 := ne_of_none upd_same hT0
  have hL05 : (upd (upd (upd H2 M0 (.dT (tab (insAll [] (partsOf l)) fun _ => V.bl true))) L0 (.lst ys)) T0 (.lst [V.ref L0])) L0 = some (.lst ys) := by rw [upd_ne nL0T, upd_same]
  have tot : ∀ b ysx, (upd H2 M0 (.dT (tab (insAll [] (partsOf l)) fun _ => V.bl true))) b = some (.tup ysx) -> (upd (upd (upd H2 M0 (.dT (tab (insAll [] (partsOf l)) fun _ => V.bl true))) L0 (.lst ys)) T0 (.lst [V.ref L0])) b = some (.tup ysx) := fun b ysx x => by
   have x2 : (upd (upd H2 M0 (.dT (tab (insAll [] (partsOf l)) fun _ => V.bl true))) L0 (.lst ys)) b = some (.tup ysx) := by rw [upd_ne (ne_of_none x hL0)]; exact x
   rw [upd_ne (ne_of_none x2 hT0)]
   exact x2
  have newLs : ∀ L, H L = none -> L ∉ Ls := fun L hL hm => by
   obtain ⟨vs, z⟩ := hfut.lsH L hm
   rw [hL] at z
   cases z
  refine ⟨_, rfl, (n : Int), rfl, by have := L15.n15; omega, by have := L15.n15; omega, ?_⟩
  rw [show ((n : Int)).toNat = n from by omega]
  have fr5 : Fr2 H (upd (upd (upd H2 M0 (.dT (tab (insAll [] (partsOf l)) fun _ => V.bl true))) L0 (.lst ys)) T0 (.lst [V.ref L0])) d e Ls Ls := ⟨fun b o x _ _ => s5 b o x, ⟨⟨_, s5 _ _ hd⟩, _, s5 _ _ he⟩, fun _ h => .inl h⟩
  have dayStep : ∀ i, Ds l (i + 1) = Ds l i ++ [dayD (i + 1) (partsOf l)] := fun i => by
   unfold Ds
   rw [List.range_succ (n := i + 1), List.map_append]
   rfl
  have dsLen : ∀ i, (Ds l i).length = i + 1 := fun i => by unfold Ds; rw [List.length_map, List.length_range]
  have dsGet : ∀ i, (Ds l i)[i]? = some (dayD i (partsOf l)) := fun i => by
   unfold Ds
   rw [List.getElem?_map, List.getElem?_range (by omega)]
   rfl
  have nTd : T0 ≠ d := fun z => by rw [z, hd] at hT0n; cases hT0n
  have nTe : T0 ≠ e := fun z => by rw [z, he] at hT0n; cases hT0n
  refine for_range (lo := 0) (n := n) (fun i σ H2 => ∃ (v3 v5 v6 v7 : Option V) (vs : List V) (Ls' : List Addr), σ = [some (.ref f'), some (.ref A'), some (.int (n : Int)), v3, some (.ref T0), v5, v6, v7] /\ H2 T0 = some (.lst vs) /\ LstsV H2 (Ds l i) vs /\ T0 ∉ Ls' /\ V.ref T0 ∉ vs /\
    FutAt P w C CP H2 f' q d e (y + addD l i) U Ls' /\ Fr2 H H2 d e Ls Ls')
   ⟨none, none, none, none, [V.ref L0], Ls, rfl, upd_same, .cons hL05 (tv0.same tot) .nil, newLs _ hT0n, (by simp; exact fun z => nL0T z.symm), hfut5, fr5⟩ ?_ ?_
  ·rintro i σ H6 hi ⟨v3, v5, v6, v7, vs, Ls6, rfl, hT6, lv6, nTL6, nTv6, hfut6, fr6⟩
   intro M hM
   have s7 : Same H6 (upd H6 M (.dT [])) := same_new hM
   have nTM : T0 ≠ M := ne_of_none hT6 hM
   have hMn : H M = none := fr6.free hM
   obtain ⟨Lk, wk, hk1, hk2, hk3⟩ := lv6.get (dsGet i)
   have hLkT : Lk ≠ T0 := fun z => by
    rw [z] at hk1
    exact nTv6 (List.mem_of_getElem? hk1)
   have nMd : M ≠ d := fun z => by
    obtain ⟨⟨φ6, z6⟩, _⟩ := hfut6.here
    rw [z, z6] at hM
    cases hM
   have nMe : M ≠ e := fun z => by
    obtain ⟨_, kv6, z6⟩ := hfut6.here
    rw [z, z6] at hM
    cases hM
   refine ⟨_, rfl, _, rfl, T0, _, _, _, rfl, rfl, SqL.of (s7 _ _ hT6), at_of (j := i) (by omega) hk1, Lk, rfl, ⟨_, SqL.of (s7 _ _ hk2)⟩, ?_⟩
   have lwk : wk.length = (dayD i (partsOf l)).length := hk3.len.symm
   have subK : ∀ (j : Nat) (x : Row), x ∈ insAll [] (((dayD i (partsOf l)).take j).flatMap kids) -> x ∈ dayD (i + 1) (partsOf l) := fun j x hx => by
    show x ∈ insAll [] ((dayD i (partsOf l)).flatMap kids)
    rw [mem_insAll] at hx ⊢
    refine hx.imp id fun z => ?_
    obtain ⟨a, ha, hb⟩ := List.mem_flatMap.mp z
    exact List.mem_flatMap.mpr ⟨a, List.mem_of_mem_take ha, hb⟩
   refine for_list (K := K) (a := Lk) (xs := wk) (fun j σ H8 => ∃ (v3 v7 : Option V) (Ls8 : List Addr), σ = [some (.ref f'), some (.ref A'), some (.int (n : Int)), v3, some (.ref T0), some (.int (0 + (i : Int))), some (.ref M), v7] /\
     H8 M = some (.dT (tab (insAll [] (((dayD i (partsOf l)).take j).flatMap kids)) fun _ => V.bl true)) /\ H8 T0 = some (.lst vs) /\ LstsV H8 (Ds l i) vs /\ H8 Lk = some (.lst wk) /\ TupsV H8 (dayD i (partsOf l)) wk /\ T0 ∉ Ls8 /\
     FutAt P w C CP H8 f' q d e (y + addD l i + (((dayD i (partsOf l)).take j).map fun p => addR (Rc75.aloud p)).sum) U Ls8 /\ Fr2 H H8 d e Ls Ls8)
    ⟨v3, v7, Ls6, rfl, upd_same, s7 _ _ hT6, lv6.same (fun b o x _ => s7 b o x), s7 _ _ hk2, hk3.same (same_tup s7), nTL6, hfut6.same s7, ⟨fun b o x h1 h2 => s7 _ _ (fr6.keep b o x h1 h2), ⟨let ⟨o, z⟩ := fr6.here.1; ⟨o, s7 _ _ z⟩, let ⟨o, z⟩ := fr6.here.2; ⟨o, s7 _ _ z⟩⟩, fr6.ls⟩⟩
    (fun j σ H8 _ ⟨_, _, _, _, _, _, _, z, _⟩ => SqL.of z) ?_ ?_
   ·rintro j x σ H8 hj ⟨v3, v7, Ls8, rfl, hM8, hT8, lv8, hLk8, tv8, nTL8, hfut8, fr8⟩
    obtain ⟨pr, r, hp1, rfl, hr8⟩ := tv8.get hj
    obtain ⟨hjl, epr⟩ := List.getElem?_eq_some_iff.mp hp1
    have hmem : pr ∈ dayD i (partsOf l) := List.mem_of_getElem? hp1
    have hpl := L15.rows (Nat.le_of_lt hi) pr hmem
    have sumLe : ∀ m, (((dayD i (partsOf l)).take m).map fun p => addR (Rc75.aloud p)).sum <= addR (Rc75.later (i + 1) l) := fun m => by
     refine Nat.le_trans ?_ (add_day L15.pl i)
     have e : dayD i (partsOf l) = (dayD i (partsOf l)).take m ++ (dayD i (partsOf l)).drop m := (List.take_append_drop _ _).symm
     conv => rhs; rw [e]
     rw [List.map_append, List.sum_append]
     omega
    have addMono : ∀ a b, a <= b -> addD l a <= addD l b := fun a b h => by
     induction h with
     | refl => exact Nat.le_refl _
     | step _ ih => exact Nat.le_trans ih (Nat.le_add_right _ _)
    have stepS : (((dayD i (partsOf l)).take (j + 1)).map fun p => addR (Rc75.aloud p)).sum = (((dayD i (partsOf l)).take j).map fun p => addR (Rc75.aloud p)).sum + addR (Rc75.aloud pr) := by
     rw [List.take_succ_eq_append_getElem hjl, epr, List.map_append, List.sum_append]
     rfl
    have hyM : y + addD l i + (((dayD i (partsOf l)).take j).map fun p => addR (Rc75.aloud p)).sum + addR (Rc75.aloud pr) <= YMax := by
     have h1 := sumLe (j + 1)
     rw [stepS] at h1
     have h2 := addMono (i + 1) n hi
     have h3 : addD l (i + 1) = addD l i + addR (Rc75.later (i + 1) l) := rfl
     have := L15.yes
     omega
    obtain ⟨dxf, hf8⟩ := hfut8.ob
    refine ⟨_, rfl, f', dxf, _, rfl, hf8, ff_no _ _ (by decide +kernel) (by decide +kernel), _, rfl, ?_⟩
    refine ⟨f', q, d, e, r, pr, _, _, U, Ls8, rfl, hfut8, hr8, hpl.1, L15.len (Nat.le_of_lt hi) hmem, L15.next hi hmem, addR_ok _ _, hyM, L15.fewU, hpl.2, fun L vsL Ls9 H9 hLm hL9 tvL hfut9 fr9 => ?_⟩
    refine ⟨L, rfl, ⟨_, SqL.of hL9⟩, ?_⟩
    have hM9 := fr9.keep _ _ hM8 nMd nMe
    have fr09 := fr8.trans fr9
    refine for_list (K := K) (a := L) (xs := vsL) (fun m σ H10 => ∃ (v7 : Option V), σ = [some (.ref f'), some (.ref A'), some (.int (n : Int)), some (.ref r), some (.ref T0), some (.int (0 + (i : Int))), some (.ref M), v7] /\
      H10 M = some (.dT (tab (insAll (insAll [] (((dayD i (partsOf l)).take j).flatMap kids)) ((kids pr).take m)) fun _ => V.bl true)) /\ ∀ b o, H9 b = some o -> b ≠ M -> H10 b = some o)
     ⟨v7, rfl, hM9, fun b o x _ => x⟩ (fun m σ H10 _ ⟨_, _, _, k10⟩ => SqL.of (k10 _ _ hL9 (ne_of hL9 hM9 (by intro z; cases z)))) ?_ ?_
    ·rintro m xc σ H10 hm ⟨v7, rfl, hM10, k10⟩
     obtain ⟨c, rc, hc1, rfl, hrc⟩ := tvL.get hm
     have hrc10 : H10 rc = some (.tup ((kR c).map kV)) := by
      rw [kR_V]
      exact k10 _ _ hrc (ne_of hrc hM9 (by intro z; cases z))
     have nd : (insAll (insAll [] (((dayD i (partsOf l)).take j).flatMap kids)) ((kids pr).take m)).Nodup := nodup_insAll (nodup_insAll List.nodup_nil)
     have few := few_rows (U := U) nd L15.fewU fun x hx => by
      have hx2 : x ∈ dayD (i + 1) (partsOf l) := by
       rw [mem_insAll] at hx
       rcases hx with z | z
       ·exact subK j x z
       ·show x ∈ insAll [] ((dayD i (partsOf l)).flatMap kids)
        rw [mem_insAll]
        exact .inr (List.mem_flatMap.mpr ⟨pr, hmem, List.mem_of_mem_take z⟩)
      exact L15.rows hi x hx2
     refine ⟨_, rfl, _, rfl, M, _, rfl, DPut.t hM10 hrc10 (line_lt (by unfold tab; rw [List.length_map]; exact few)), _, rfl, ?_, fun b o x hb => ?_⟩
     ·obtain ⟨hml, ec⟩ := List.getElem?_eq_some_iff.mp hc1
      have ec' : (kids pr)[m]? = some c := hc1
      obtain ⟨hml', ec2⟩ := List.getElem?_eq_some_iff.mp ec'
      rw [upd_same, put_tab (g := fun _ => V.bl true), List.take_succ_eq_append_getElem hml', ec2, insAll_append]
      rfl
     ·rw [upd_ne hb]
      exact k10 b o x hb
    ·rintro σ H10 ⟨v7, rfl, hM10, k10⟩
     have ek : (kids pr).take vsL.length = kids pr := List.take_of_length_le (by rw [<- tvL.len]; exact Nat.le_refl _)
     rw [ek, <- insAll_append] at hM10
     have et : ((dayD i (partsOf l)).take j).flatMap kids ++ kids pr = ((dayD i (partsOf l)).take (j + 1)).flatMap kids := by
      rw [List.take_succ_eq_append_getElem hjl, epr, List.flatMap_append, List.flatMap_cons, List.flatMap_nil, List.append_nil]
     rw [et] at hM10
     have hT9 := fr9.keep _ _ hT8 nTd nTe
     have nTL9 : T0 ∉ Ls9 := fun z => (fr9.ls T0 z).elim nTL8 fun z2 => by rw [hT8] at z2; cases z2
     have kd9 : ∀ b o, H8 b = some o -> (∃ xs, o = .tup xs) \/ (∃ xs, o = .lst xs) -> H10 b = some o := fun b o x z => by
      have n1 : b ≠ d := by
       obtain ⟨⟨φ8, z8⟩, _⟩ := hfut8.here
       rcases z with ⟨xs, rfl⟩ | ⟨xs, rfl⟩ <;> exact ne_of x z8 (by intro z; cases z)
      have n2 : b ≠ e := by
       obtain ⟨_, kv8, z8⟩ := hfut8.here
       rcases z with ⟨xs, rfl⟩ | ⟨xs, rfl⟩ <;> exact ne_of x z8 (by intro z; cases z)
      have n3 : b ≠ M := by rcases z with ⟨xs, rfl⟩ | ⟨xs, rfl⟩ <;> exact ne_of x hM8 (by intro z; cases z)
      exact k10 b o (fr9.keep b o x n1 n2) n3
     refine ⟨_, v7, Ls9, rfl, hM10, kd9 _ _ hT8 (.inr ⟨_, rfl⟩), lv8.same (fun b o x z => kd9 b o x (z.imp id (·.1))), kd9 _ _ hLk8 (.inr ⟨_, rfl⟩), tv8.same (fun b ysx x => kd9 b _ x (.inl ⟨_, rfl⟩)), nTL9, ?_, ⟨fun b o x h1 h2 => k10 b o (fr09.keep b o x h1 h2) (fun z => by rw [z, hMn] at x; cases x), ⟨let ⟨o, z⟩ := fr09.here.1; ⟨o, k10 _ _ z nMd.symm⟩, let ⟨o, z⟩ := fr09.here.2; ⟨o, k10 _ _ z nMe.symm⟩⟩, fr09.ls⟩⟩
     rw [stepS, <- Nat.add_assoc]
     exact hfut9.but (z := M) (fun b o x hb => k10 b o x hb) (.inr (.inl ⟨_, hM9, nMe⟩))
   ·rintro σ H8 ⟨v3, v7, Ls8, rfl, hM8, hT8, lv8, hLk8, tv8, nTL8, hfut8, fr8⟩
    have ek : (dayD i (partsOf l)).take wk.length = dayD i (partsOf l) := List.take_of_length_le (by rw [lwk]; exact Nat.le_refl _)
    rw [ek] at hM8 hfut8
    refine ⟨_, rfl, .inl ⟨rfl, _, SqL.of hT8⟩, _, rfl, M, _, rfl, hM8, fun L' ys' hL' hk' => ?_⟩
    have tv' := hk'.tups
    have s9 : Same H8 (upd H8 L' (.lst ys')) := same_new hL'
    have hT9 := s9 _ _ hT8
    refine ⟨T0, _, _, rfl, rfl, hT9, line_lt (by rw [<- lv8.len, dsLen]; have := L15.n15; omega), ?_⟩
    have nL'T : L' ≠ T0 := (ne_of_none hT8 hL').symm
    have m10 : ∀ b o, (upd H8 L' (.lst ys')) b = some o -> b ≠ T0 -> (upd (upd H8 L' (.lst ys')) T0 (.lst (vs ++ [.ref L']))) b = some o := fun b o x hb => by rw [upd_ne hb]; exact x
    refine ⟨_, _, _, _, vs ++ [.ref L'], Ls8, rfl, upd_same, ?_, nTL8, ?_, ?_, ⟨fun b o x h1 h2 => m10 b o (s9 _ _ (fr8.keep b o x h1 h2)) (fun z => by rw [z, hT0n] at x; cases x), ⟨let ⟨o, z⟩ := fr8.here.1; ⟨o, m10 _ _ (s9 _ _ z) nTd.symm⟩, let ⟨o, z⟩ := fr8.here.2; ⟨o, m10 _ _ (s9 _ _ z) nTe.symm⟩⟩, fr8.ls⟩⟩
    ·rw [dayStep]
     refine LstsV.snoc (m10 _ _ upd_same nL'T) ?_ (lv8.same fun b o x z => ?_)
     ·show TupsV _ (insAll [] ((dayD i (partsOf l)).flatMap kids)) ys'
      refine tv'.same fun b ysx x => ?_
      have x9 := s9 _ _ x
      exact m10 b _ x9 (ne_of x9 hT9 (by intro z; cases z))
     ·refine m10 b o (s9 _ _ x) ?_
      rcases z with ⟨xs, rfl⟩ | ⟨⟨xs, rfl⟩, hb⟩
      ·exact ne_of x hT8 (by intro z; cases z)
      ·exact fun z => nTv6 (by rw [<- z]; exact hb)
    ·intro z
     rcases List.mem_append.mp z with z | z
     ·exact nTv6 z
     ·simp at z
      exact nL'T z.symm
    ·have e1 : y + addD l (i + 1) = y + addD l i + addR (Rc75.later (i + 1) l) := by show y + (addD l i + _) = _; omega
     have hle : y + addD l i + ((dayD i (partsOf l)).map fun p => addR (Rc75.aloud p)).sum <= y + addD l (i + 1) := by
      rw [e1]
      have := add_day L15.pl i
      omega
     exact ((hfut8.same s9).but (z := T0) (fun b o x hb => m10 b o x hb) (.inl ⟨_, hT9, nTL8⟩)).mono hle fun _ h => h
  ·rintro σ H6 ⟨v3, v5, v6, v7, vs, Ls6, rfl, hT6, lv6, nTL6, nTv6, hfut6, fr6⟩
   exact ⟨_, rfl, kQ T0 vs Ls6 H6 hT0n nTL6 hT6 lv6 nTv6 hfut6 fr6⟩
end
end RA
end
section
namespace RA
open PySem L2
open Rc75 (Row)
theorem ins1_new {D : List Row} {p : Row} (h : p ∉ D) : ins1 D p = D ++ [p] := if_neg h
def iV (m : Row -> Nat) : Row -> V := fun p => .int (m p : Int)
theorem Look15.addMono {l : Row} : ∀ {a b : Nat}, a <= b -> addD l a <= addD l b := fun {a b} h => by
 induction h with
 | refl => exact Nat.le_refl _
 | step _ ih => exact Nat.le_trans ih (Nat.le_add_right _ _)
theorem sum_take (D : List Row) (f : Row -> Nat) (m : Nat) : ((D.take m).map f).sum <= (D.map f).sum := by
 have e : D = D.take m ++ D.drop m := (List.take_append_drop _ _).symm
 conv => rhs; rw [e]
 rw [List.map_append, List.sum_append]
 omega
theorem sum_ints : ∀ (ps : List Row) (m : Row -> Nat), (ps.map fun c => (m c : Int)).sum = (((ps.map m).sum : Nat) : Int)
 | [], _ => rfl
 | p :: ps, m => by
  rw [List.map_cons, List.sum_cons, sum_ints ps m, List.map_cons, List.sum_cons]
  omega
def spSums (P : Program) (w : World) (CF CP : Addr) : Sp := fun vs H Q _ => ∃ (f q d e A N : Addr) (l : Row) (n k y y0 : Nat) (U : List Row) (Ls : List Addr) (ws : List V) (m : Row -> Nat), vs = [.ref f, .ref A, .ref N] /\ FutAt P w CF CP H f q d e y U Ls /\ H A = some (.lst ws) /\ TupsV H (dayD k (partsOf l)) ws /\
 Look15 l n U y0 /\ k < n /\ y + addR (Rc75.later (k + 1) l) <= YMax /\ H N = some (.dT (tab (dayD (k + 1) (partsOf l)) (iV m))) /\ N ≠ e /\
 ∀ (M : Addr) (Ls' : List Addr) (H' : Hp), H M = none -> H' M = some (.dT (tab (dayD k (partsOf l)) (iV fun p => ((kids p).map m).sum))) -> FutAt P w CF CP H' f q d e (y + addR (Rc75.later (k + 1) l)) U Ls' -> Fr2 H H' d e Ls Ls' -> Q (.ref M) H'
section
variable {P : Program} {w : World} {K : PySem.W.Frag} {mg : Str -> Option Value} {base : Heap}
theorem scSums : FnScope ["self", "parts", "next_day", "told", "part", "child"] ["self", "parts", "next_day"] (defScope sSums) := ⟨rfl, rfl, rfl, by decide +kernel, rfl, by decide +kernel, by decide +kernel⟩
theorem ok_sums {f C CP fL : Addr} {fd fdL : FuncData} (F : Fun K "sums" "Future.sums" sSums f fd) (T : FTxt K mg C) (hsum : mg "sum" = none) (ML : MDef K C "parts_later" "Future.parts_later" sPLater fL fdL ["self", "part"])
  (GL : FnOk P w K mg base CX0 7 fL fdL ["self", "part"] (spPLater P w C CP)) : FnOk P w K mg base CX0 8 f fd ["self", "parts", "next_day"] (spSums P w C CP) := by
 refine F.ok scSums (fun vs H Q E h => ?_) (fun cdv A outer s H vs Q E hr h => ?_)
 ·obtain ⟨f', q, d, e, A', N, l, n, k, y, y0, U, Ls, ws, m, rfl, _⟩ := h
  rfl
 ·obtain ⟨f', q, d, e, A', N, l, n, k, y, y0, U, Ls, ws, m, rfl, hfut, hA, tv, L15, hk, hyM, hN, nNe, kQ⟩ := h
  refine ⟨_, pss_cons (ps_set (i := 3) scSums.nd rfl (Or.inl rfl) pe_dnewT)
   (pss_cons (ps_for PassesOwn.never rfl (pi_list (pv 1)) (pg_name (i := 4) scSums.nd rfl (Or.inl rfl))
    (pss_one (ps_dput (hu_of hr) (pv 3) (pv 4) (pe_callB (cr_sum rfl) (by rfl) hsum PyProof.Rows.boot_sum (pa_cons
     (pe_lc (own := [("child", 5)]) (g := gName 5) (te := tDGet (tVar 2) (tVar 5)) rfl scSums.nd (pi_list (pe_meth (pv 0) T.cl ML.me GL hr ML.b .nil pass0 (pa_cons (pv 4) pa_nil))) (blkOk_by (by kernel_rfl))
      (fun _ _ _ _ _ => by exact pg_name (i := 5) scSums.nd rfl (Or.inl rfl)) (fun _ _ _ _ _ => pts_nil) (fun _ _ _ _ _ => by exact pe_dget (hu_of hr) (pv 2) (pv 5) (fun _ _ => rfl))) pa_nil)) rfl)))
   (pss_one (ps_ret (pv 3)))), ?_⟩
  intro M hM
  have s1 : Same H (upd H M (.dT [])) := same_new hM
  obtain ⟨⟨φ, hd⟩, kv0, he⟩ := hfut.here
  have nMd : M ≠ d := fun z => by rw [z, hd] at hM; cases hM
  have nMe : M ≠ e := fun z => by rw [z, he] at hM; cases hM
  have nNM : N ≠ M := ne_of_none hN hM
  have nNd : N ≠ d := ne_of hN hd (by intro z; cases z)
  have ND := nodup_dayD k (partsOf l)
  refine ⟨_, rfl, A', rfl, ⟨_, SqL.of (s1 _ _ hA)⟩, ?_⟩
  refine for_list (K := K) (a := A') (xs := ws) (fun j σ H2 => ∃ (v4 v5 : Option V) (Ls2 : List Addr), σ = [some (.ref f'), some (.ref A'), some (.ref N), some (.ref M), v4, v5] /\
    H2 M = some (.dT (tab ((dayD k (partsOf l)).take j) (iV fun p => ((kids p).map m).sum))) /\ FutAt P w C CP H2 f' q d e (y + (((dayD k (partsOf l)).take j).map fun p => addR (Rc75.aloud p)).sum) U Ls2 /\ Fr2 H H2 d e Ls Ls2)
   ⟨none, none, Ls, rfl, upd_same, hfut.same s1, ⟨fun b o x _ _ => s1 _ _ x, ⟨⟨_, s1 _ _ hd⟩, _, s1 _ _ he⟩, fun _ h => .inl h⟩⟩
   (fun j σ H2 _ ⟨_, _, _, _, _, _, fr⟩ => SqL.of (fr.keep _ _ hA (ne_of hA hd (by intro z; cases z)) (ne_of hA he (by intro z; cases z)))) ?_ ?_
  ·rintro j x σ H2 hj ⟨v4, v5, Ls2, rfl, hM2, hfut2, fr2⟩
   obtain ⟨pr, r, hp1, rfl, hr0⟩ := tv.get hj
   obtain ⟨hjl, epr⟩ := List.getElem?_eq_some_iff.mp hp1
   have hmem : pr ∈ dayD k (partsOf l) := List.mem_of_getElem? hp1
   have hpl := L15.rows (Nat.le_of_lt hk) pr hmem
   have kt : ∀ b xs, H b = some (.tup xs) -> H2 b = some (.tup xs) := fun b xs x => fr2.keep _ _ x (ne_of x hd (by intro z; cases z)) (ne_of x he (by intro z; cases z))
   have hr2 := kt _ _ hr0
   have hN2 := fr2.keep _ _ hN nNd nNe
   have stepS : (((dayD k (partsOf l)).take (j + 1)).map fun p => addR (Rc75.aloud p)).sum = (((dayD k (partsOf l)).take j).map fun p => addR (Rc75.aloud p)).sum + addR (Rc75.aloud pr) := by
    rw [List.take_succ_eq_append_getElem hjl, epr, List.map_append, List.sum_append]
    rfl
   have hyM2 : y + (((dayD k (partsOf l)).take j).map fun p => addR (Rc75.aloud p)).sum + addR (Rc75.aloud pr) <= YMax := by
    have h1 := sum_take (dayD k (partsOf l)) (fun p => addR (Rc75.aloud p)) (j + 1)
    have h2 := add_day L15.pl k
    omega
   obtain ⟨dxf, hf2⟩ := hfut2.ob
   refine ⟨_, rfl, f', dxf, _, rfl, hf2, ff_no _ _ (by decide +kernel) (by decide +kernel), _, rfl, ?_⟩
   refine ⟨f', q, d, e, r, pr, _, _, U, Ls2, rfl, hfut2, hr2, hpl.1, L15.len (Nat.le_of_lt hk) hmem, L15.next hk hmem, addR_ok _ _, hyM2, L15.fewU, hpl.2, fun L vsL Ls3 H3 hLm hL3 tvL hfut3 fr3 => ?_⟩
   have hM3 := fr3.keep _ _ hM2 nMd nMe
   have hN3 := fr3.keep _ _ hN2 nNd nNe
   refine ⟨L, rfl, ⟨_, SqL.of hL3⟩, fun Dl hDl => ?_⟩
   have kidD : ∀ c, c ∈ kids pr -> c ∈ dayD (k + 1) (partsOf l) := fun c hc => by
    show c ∈ insAll [] ((dayD k (partsOf l)).flatMap kids)
    rw [mem_insAll]
    exact .inr (List.mem_flatMap.mpr ⟨pr, hmem, hc⟩)
   have lvs : vsL.length <= 16777216 := by
    rw [<- tvL.len]
    have := cuts_few (Rc75.aloud pr)
    have h0 := L15.next hk hmem
    unfold partsOf cutEnds
    rw [List.length_map, List.length_zip, List.length_cons, List.length_append]
    show min _ (_ + 1) <= _
    by_cases hl0 : (Rc75.aloud pr).length = 0
    ·rw [hl0] at this; omega
    ·omega
   refine lc_list (K := K) (a := L) (xs := vsL) (fun i H4 => Same H3 H4 /\ H4 Dl = some (.lst (((kids pr).take i).map fun c => V.int (m c : Int)))) ⟨same_new hDl, upd_same⟩ (fun i H4 _ z => SqL.of (z.1 _ _ hL3)) ?_ ?_
   ·rintro i x H4 hi ⟨s4, hD4⟩
    obtain ⟨c, rc, hc1, rfl, hrc⟩ := tvL.get hi
    have hc1' : (kids pr)[i]? = some c := hc1
    obtain ⟨hil, ec⟩ := List.getElem?_eq_some_iff.mp hc1'
    refine ⟨rfl, ?_⟩
    unfold tYes
    dsimp only
    rw [if_pos rfl]
    have hrc4 : H4 rc = some (.tup ((kR c).map kV)) := by rw [kR_V]; exact s4 _ _ hrc
    have ev := val_tab (g := iV m) (kidD c (List.mem_of_getElem? hc1'))
    have hil2 : i < vsL.length := (List.getElem?_eq_some_iff.mp hi).1
    refine ⟨_, rfl, _, rfl, N, _, rfl, ev ▸ DGet.t (s4 _ _ hN3) hrc4, _, hD4, line_lt (by rw [List.length_map, List.length_take]; omega), fun b o x => ?_, ?_⟩
    ·rw [upd_ne (ne_of_none x hDl)]
     exact s4 _ _ x
    ·rw [upd_same, List.take_succ_eq_append_getElem hil, ec, List.map_append]
     rfl
   ·rintro H4 ⟨s4, hD4⟩
    have ek : (kids pr).take vsL.length = kids pr := List.take_of_length_le (by rw [<- tvL.len]; exact Nat.le_refl _)
    rw [ek] at hD4
    have eI : ((kids pr).map fun c => V.int (m c : Int)) = ((kids pr).map fun c => (m c : Int)).map V.int := by rw [List.map_map]; rfl
    rw [eI] at hD4
    refine ⟨Dl, _, rfl, SqL.of hD4, ?_⟩
    rw [sum_ints]
    have hM4 := s4 _ _ hM3
    have hr4 : H4 r = some (.tup ((kR pr).map kV)) := by
     rw [kR_V]
     exact s4 _ _ (fr3.keep _ _ hr2 (ne_of hr0 hd (by intro z; cases z)) (ne_of hr0 he (by intro z; cases z)))
    have few := few_rows (U := U) (D := (dayD k (partsOf l)).take j) (ND.sublist (List.take_sublist _ _)) L15.fewU fun x hx => L15.rows (Nat.le_of_lt hk) x (List.mem_of_mem_take hx)
    refine ⟨_, rfl, _, rfl, M, _, rfl, DPut.t hM4 hr4 (line_lt (by unfold tab; rw [List.length_map]; exact few)), ?_⟩
    have notin : pr ∉ (dayD k (partsOf l)).take j := fun z => by
     obtain ⟨i2, hi2⟩ := List.mem_iff_getElem?.mp z
     rw [List.getElem?_take] at hi2
     by_cases h2 : i2 < j
     ·rw [if_pos h2] at hi2
      have := (List.getElem?_inj (List.getElem?_eq_some_iff.mp hi2).1 ND).mp (hi2.trans hp1.symm)
      omega
     ·rw [if_neg h2] at hi2
      cases hi2
    have ep := put_tab ((dayD k (partsOf l)).take j) (iV fun p => ((kids p).map m).sum) pr
    rw [ins1_new notin] at ep
    have e3 : (dayD k (partsOf l)).take j ++ [pr] = (dayD k (partsOf l)).take (j + 1) := by rw [List.take_succ_eq_append_getElem hjl, epr]
    rw [e3] at ep
    have ep2 : putK (tab ((dayD k (partsOf l)).take j) (iV fun p => ((kids p).map m).sum)) (kR pr) (V.int ((((kids pr).map m).sum : Nat) : Int)) = tab ((dayD k (partsOf l)).take (j + 1)) (iV fun p => ((kids p).map m).sum) := ep
    have m5 : ∀ b o, H4 b = some o -> b ≠ M -> (upd H4 M (.dT (putK (tab ((dayD k (partsOf l)).take j) (iV fun p => ((kids p).map m).sum)) (kR pr) (V.int ((((kids pr).map m).sum : Nat) : Int))))) b = some o := fun b o x hb => by rw [upd_ne hb]; exact x
    have fr4 : Fr2 H H3 d e Ls Ls3 := fr2.trans fr3
    refine ⟨_, _, Ls3, rfl, by rw [upd_same, ep2], ?_, ⟨fun b o x h1 h2 => m5 b o (s4 _ _ (fr4.keep b o x h1 h2)) (fun z => by rw [z, hM] at x; cases x), ⟨let ⟨o, z⟩ := fr4.here.1; ⟨o, m5 _ _ (s4 _ _ z) nMd.symm⟩, let ⟨o, z⟩ := fr4.here.2; ⟨o, m5 _ _ (s4 _ _ z) nMe.symm⟩⟩, fr4.ls⟩⟩
    rw [stepS, <- Nat.add_assoc]
    exact (hfut3.same s4).but (z := M) (fun b o x hb => m5 b o x hb) (.inr (.inl ⟨_, hM4, nMe⟩))
  ·rintro σ H2 ⟨v4, v5, Ls2, rfl, hM2, hfut2, fr2⟩
   have ek : (dayD k (partsOf l)).take ws.length = dayD k (partsOf l) := List.take_of_length_le (by rw [<- tv.len]; exact Nat.le_refl _)
   rw [ek] at hM2 hfut2
   have := add_day L15.pl k
   exact ⟨_, rfl, kQ M Ls2 H2 hM hM2 (hfut2.mono (by omega) fun _ h => h) fr2⟩
end
end RA
end
section
namespace RA
open PySem PyProof.Rows L2
open Rc75 (Row)
theorem heap_of : ∀ n : Nat, ∃ h : Heap, h.objs.size = n
 | 0 => ⟨{ objs := #[] }, rfl⟩
 | n + 1 => by
  obtain ⟨h, e⟩ := heap_of n
  exact ⟨h.push { cls := .none, data := .fields #[] }, by rw [Heap.size_push, e]⟩
theorem ex_ne {P : Program} {w : World} {H : Hp} {g d : Addr} {o : Obj} {xs : List (BKey × Addr × Value)} (h1 : H g = some (Ex g o)) (h2 : H d = some (.ext (NdAt P w d xs))) (hf : o.isFreed = false) (hd : ∀ es ep, o.data ≠ .dict es ep) : g ≠ d := by
 intro z
 subst z
 rw [h1] at h2
 have h3 := Option.some.inj h2
 injection h3 with h4
 obtain ⟨h, hs⟩ := heap_of g
 have e : (h.push o).get? g = some o := by rw [<- hs]; exact Heap.get?_push_size _ hf
 have q := (congrFun h4 (h.push o)).mp e
 obtain ⟨o', es, ep, e1, _, e3, _⟩ := q
 rw [e] at e1
 cases e1
 exact hd es ep e3
inductive Meas where
 | len
 | cnt (a : Nat)
def Meas.f : Meas -> Row -> Nat
 | .len => List.length
 | .cnt a => List.count a
theorem Meas.adds : ∀ m : Meas, Adds2 m.f
 | .len => adds_len
 | .cnt a => adds_count a
structure LamOk (l : Lam) : Prop where
 bind : ∀ (p : Addr) (cdv ct : Value), bindArgs (PySem.W.kla_fn "<lambda>" l.qual l.params l.body l.scope l.clos l.pm cdv ct) ⟨[.ref p], []⟩ = pure [(("part" : Str), Value.ref p)]
 co : l.scope.isCoroutine = false
 gen : l.scope.isGenerator = false
 kind : l.scope.kind = .function
 cell : ∀ x ∈ l.scope.names, x.2 ≠ .cell
 loc : l.scope.names.lookup ("part" : Str) = some .local
structure LenLam (l : Lam) : Prop where
 ok : LamOk l
 clos : l.clos = []
 free : ∀ x, l.scope.names.lookup x ≠ some .free
 glen : l.scope.names.lookup ("len" : Str) = some .globalImplicit
 body : ∃ p1 p2 pos, l.body = .Call (.Name "len" p1) [.Name "part" p2] [] pos
structure CntLam (l : Lam) (cl : Addr) : Prop where
 ok : LamOk l
 clos : l.clos = [(("digit" : Str), cl)]
 free : ∀ x, l.scope.names.lookup x = some .free -> x = "digit"
 dig : l.scope.names.lookup ("digit" : Str) = some .free
 body : ∃ p1 apos p2 pos, l.body = .Call (.Attribute (.Name "part" p1) "count" apos) [.Name "digit" p2] [] pos /\ (apos.endLine == pos.line) = true
def MeasV (H : Hp) (g : Addr) : Meas -> Prop
 | .len => ∃ l, LenLam l /\ LamV H g l
 | .cnt a => ∃ l cl o t, CntLam l cl /\ LamV H g l /\ H cl = some (Ex cl o) /\ o.data = .cell (some (.int (a : Int) t))
theorem LamV.keep {H H' : Hp} {g : Addr} {l : Lam} (x : LamV H g l) (k : ∀ b o, H b = some (Ex b o) -> o.isFreed = false -> (∀ es ep, o.data ≠ .dict es ep) -> H' b = some (Ex b o)) : LamV H' g l := by
 obtain ⟨c, ctv, h1, oc, vs, t, h2, h3, h4⟩ := x
 exact ⟨c, ctv, k _ _ h1 rfl (by intro _ _ z; cases z), oc, vs, t, k _ _ h2 (Obj.isFreed_of_fields h3) (by intro _ _ z; rw [h3] at z; cases z), h3, h4⟩
theorem MeasV.keep {H H' : Hp} {g : Addr} : ∀ {m : Meas}, MeasV H g m -> (∀ b o, H b = some (Ex b o) -> o.isFreed = false -> (∀ es ep, o.data ≠ .dict es ep) -> H' b = some (Ex b o)) -> MeasV H' g m
 | .len, ⟨l, h1, h2⟩, k => ⟨l, h1, h2.keep k⟩
 | .cnt a, ⟨l, cl, o, t, h1, h2, h3, h4⟩, k => ⟨l, cl, o, t, h1, h2.keep k, k _ _ h3 (by obtain ⟨c, d, dt, sl⟩ := o; subst h4; rfl) (by intro _ _ z; rw [h4] at z; cases z), h4⟩
theorem MeasV.same {H H' : Hp} {g : Addr} {m : Meas} (x : MeasV H g m) (s : Same H H') : MeasV H' g m := x.keep fun b o e _ _ => s _ _ e
theorem MeasV.fr2 {P : Program} {w : World} {CF CP : Addr} {H H' : Hp} {g f q d e : Addr} {y : Nat} {U : List Row} {Ls Ls0 Ls' : List Addr} {m : Meas} (x : MeasV H g m) (hfut : FutAt P w CF CP H f q d e y U Ls0) (fr : Fr2 H H' d e Ls Ls') : MeasV H' g m := by
 obtain ⟨_, kvs, he⟩ := hfut.here
 obtain ⟨_, kv, Y, dk, _⟩ := hfut.part
 obtain ⟨xs, hd, _⟩ := dk.ex
 exact x.keep fun b o z1 z2 z3 => fr.keep _ _ z1 (ex_ne z1 hd z2 z3) (ne_of z1 he (by intro z; cases z))
theorem MeasV.fn {H : Hp} {g : Addr} {m : Meas} (x : MeasV H g m) : ∃ fd oc od sl, H g = some (Ex g ⟨oc, od, .func fd, sl⟩) := by
 cases m with
 | len => obtain ⟨l, _, c, ctv, h1, _⟩ := x; exact ⟨_, _, _, _, h1⟩
 | cnt a => obtain ⟨l, cl, o, t, _, ⟨c, ctv, h1, _⟩, _⟩ := x; exact ⟨_, _, _, _, h1⟩
section
variable {X : Cx} {pins : List (Addr × Obj)} {σ : L2.St} {H : Hp} {s : Shared} {g p : Addr} {Q : VK}
theorem meas_call {m : Meas} {row : Row} (I : Inv X pins σ H s) (hr : Room 1 X.A) (hlen : X.mg "len" = none) (hm : MeasV H g m) (hp : H p = some (.tup (rV row))) (hq : Q (.int (m.f row : Int)) H) : wpAny (model X.prog X.w) X.A (call (.ref g) [.ref p]) (EP X pins σ Q) X.xe s := by
 cases m with
 | len =>
  obtain ⟨l, hl, L⟩ := hm
  have hc := hl.clos
  obtain ⟨p1, p2, pos, eb⟩ := hl.body
  refine lam_gen (N := ["part"]) (σ0 := [some (.ref p)]) (t := tCB (fun xs H Q => ∃ p ys, xs = [.ref p] /\ (SqL X.K H p ys \/ SqT X.K H p ys) /\ Q (.int ys.length) H) (tCons (tVar 0) tNil)) I hr (Sub.refl H) L (hl.ok.bind p) hl.ok.co hl.ok.gen hl.ok.kind hl.ok.cell hl.ok.loc (fun i x v h1 h2 _ => ?_) rfl (fun x c h => by rw [hc] at h; cases h) (fun x y c h => by rw [hc] at h; cases h)
   (fun x h => absurd h (hl.free x)) (fun c => ?_) ?_
  ·left
   cases i with
   | zero =>
    refine ⟨(Option.some.inj h1).symm, ?_⟩
    have : some (V.ref p) = some v := Option.some.inj h2
    exact (Option.some.inj this).symm
   | succ i => simp at h1
  ·rw [eb]
   exact pe_callB (X := lamCx X s H ["part"] (PySem.W.envX l.qual l.scope s.heap.objs.size g (.ref c) l.clos)) call_len_seq hl.glen hlen PySem.boot_len (pa_cons (pe_var (i := 0) rfl (.inl hl.ok.loc)) pa_nil)
  ·refine ⟨_, rfl, p, _, rfl, .inr (SqT.of hp), rfl, ?_⟩
   rw [rV_length]
   exact hq
 | cnt a =>
  obtain ⟨l, cl, o, t, hl, L, ho, hd⟩ := hm
  have hc := hl.clos
  obtain ⟨p1, apos, p2, pos, eb, hline⟩ := hl.body
  have hcell : s.heap.IsCell cl (some (.int (a : Int) t)) := ⟨o, Ex.get I.hok ho, hd⟩
  have npc : p ≠ cl := ne_of hp ho (by intro z; cases z)
  have hp' : (del H cl) p = some (.tup (rV row)) := by rw [del_ne npc]; exact hp
  have hlook : ∀ x c, l.clos.lookup x = some c -> x = "digit" /\ c = cl := fun x c h => by
   rw [hc, List.lookup_cons] at h
   cases e : x == ("digit" : Str) with
   | true => rw [e] at h; exact ⟨eq_of_beq e, (Option.some.inj h).symm⟩
   | false => rw [e] at h; cases h
  have hdl : l.clos.lookup ("digit" : Str) = some cl := by rw [hc, List.lookup_cons, beq_self_eq_true]
  refine lam_gen (N := ["part", "digit"]) (σ0 := [some (.ref p), some (.int (a : Int))]) (t := tBM X.K "tuple" (fun x xs H Q => ∃ (a : Addr) (ns : List Int) (k : Int), x = .ref a /\ xs = [.int k] /\ SqT X.K H a (ns.map V.int) /\ Q (.int (ns.count k : Nat)) H) (tVar 0) (tCons (tVar 1) tNil)) I hr (Sub.del ho) L (hl.ok.bind p) hl.ok.co hl.ok.gen hl.ok.kind hl.ok.cell hl.ok.loc (fun i x v h1 h2 _ => ?_) rfl
   (fun x c h => by obtain ⟨_, rfl⟩ := hlook x c h; exact ⟨del_same, _, hcell⟩) (fun x y c h h' => by rw [(hlook x c h).1, (hlook y c h').1]) (fun x h => by rw [hl.free x h]; exact ⟨cl, hdl⟩) (fun c => ?_) ?_
  ·cases i with
   | zero =>
    left
    refine ⟨(Option.some.inj h1).symm, ?_⟩
    have : some (V.ref p) = some v := Option.some.inj h2
    exact (Option.some.inj this).symm
   | succ i =>
    cases i with
    | zero =>
     right
     have e1 : ("digit" : Str) = x := Option.some.inj h1
     have e2 : some (V.int (a : Int)) = some v := Option.some.inj h2
     obtain rfl := Option.some.inj e2
     rw [<- e1]
     exact ⟨hl.dig, cl, _, hdl, ⟨t, rfl⟩, hcell⟩
    | succ i => simp at h1
  ·rw [eb]
   exact pe_bm (X := lamCx X s (del H cl) ["part", "digit"] (PySem.W.envX l.qual l.scope s.heap.objs.size g (.ref c) l.clos)) PySem.F.plainAttrs_tuple PySem.F.slot_tuple_count PySem.F.type_tuple_count mt_tcount (pe_var (i := 0) rfl (.inl hl.ok.loc)) (pa_cons (pe_var (i := 1) rfl (.inr (.inr hl.dig))) pa_nil) rfl rfl hline
  ·refine ⟨_, rfl, .inr (.inl ⟨rfl, .inr ⟨_, hp'⟩⟩), _, rfl, p, row.map (fun (n : Nat) => (n : Int)), (a : Int), rfl, rfl, SqT.of (by rw [hp']; unfold rV; rw [List.map_map]; rfl), rfl, ?_⟩
   have : (row.map fun (n : Nat) => (n : Int)).count (a : Int) = row.count a := by
    clear hq hp hp'
    induction row with
    | nil => rfl
    | cons x r ih =>
     rw [List.map_cons, List.count_cons, List.count_cons, ih]
     congr 1
     by_cases h : x = a
     ·simp [h]
     ·have h2 : ¬ ((x : Int) = (a : Int)) := by omega
      simp [h, h2]
   rw [this]
   exact hq
end
def tMeas (i : Nat) (te : TE) : TE := fun σ H Q => ∃ g m, σ[i]? = some (some (.ref g)) /\ MeasV H g m /\ te σ H fun v H1 => ∃ p row, v = .ref p /\ H1 p = some (.tup (rV row)) /\ MeasV H1 g m /\ Q (.int (m.f row : Int)) H1
theorem pe_meas {X : Cx} {i : Nat} {x : Str} {e : Expr} {te : TE} {p pos : Pos} (hN : X.N[i]? = some x) (hv : Vis X.env.scope x) (hr : Room 1 X.A) (hlen : X.mg "len" = none) (he : PE X e te) (hd : (x == ("__debug__" : Str)) = false := by decide) (hcd : (x == ("__classdict__" : Str)) = false := by decide)
  (hs : starEach [e] X.env = (false, eval e X.env) :: starEach [] X.env := by rfl) : PE X (.Call (.Name x p) [e] [] pos) (tMeas i te) := by
 intro pins s σ H Q I h
 obtain ⟨g, m, hσ, hm, h⟩ := h
 refine wpAny_Call_Name_kw (thn (pe_var hN hv hd hcd pins s σ H (fun v H1 => v = .ref g /\ H1 = H) I ⟨_, hσ, rfl, rfl⟩) fun u s1 ⟨v, H1, I1, rv, ev, eH⟩ => ?_)
 subst ev eH
 cases rv
 obtain ⟨fd, oc, od, sl, hg⟩ := hm.fn
 refine PySem.W.callWith_F ⟨oc, od, fd, sl, Ex.get I1.hok hg⟩ ?_ hs rfl
 rw [hs]
 show wpAny _ _ (spliced ((false, eval e X.env) :: backTo pos (starEach [] X.env))) _ _ s1
 refine Calls.spliced_cons (thn (he pins s1 σ H1 _ I1 h) fun u s2 ⟨v, H2, I2, rv, q, row, ev, hq, hm2, hQ⟩ => ?_)
 subst ev
 cases rv
 obtain ⟨fd2, oc2, od2, sl2, hg2⟩ := hm2.fn
 exact Calls.spliced_nil ⟨⟨oc2, od2, fd2, sl2, Ex.get I2.hok hg2⟩, meas_call I2 hr hlen hm2 hq hQ⟩
end RA
end
section
namespace RA
open PySem L2
open Rc75 (Row)
def DictsV (H : Hp) (l : Row) (n : Nat) (m : Meas) (vs : List V) : Prop := vs.length = n + 1 /\ ∀ k, k <= n -> ∃ M, vs[k]? = some (.ref M) /\ H M = some (.dT (tab (dayD k (partsOf l)) (iV fun p => m.f (Rc75.later (n - k) p))))
def spMDay (P : Program) (w : World) (CF CP : Addr) : Sp := fun vs H Q _ => ∃ (f q d e A g : Addr) (l : Row) (n y : Nat) (m : Meas) (U : List Row) (Ls : List Addr) (ws : List V), vs = [.ref f, .ref A, .int (n : Int), .ref g] /\ FutAt P w CF CP H f q d e y U Ls /\ H A = some (.lst ws) /\ TupsV H (partsOf l) ws /\ Look15 l n U y /\
 y + 2 * addD l n <= YMax /\ MeasV H g m /\
 ∀ (T : Addr) (vs : List V) (Ls' : List Addr) (H' : Hp), H T = none -> H' T = some (.lst vs) -> DictsV H' l n m vs -> FutAt P w CF CP H' f q d e (y + 2 * addD l n) U Ls' -> Fr2 H H' d e Ls Ls' -> Q (.ref T) H'
theorem tab_congr {D : List Row} {g g' : Row -> V} (h : ∀ p ∈ D, g p = g' p) : tab D g = tab D g' := by
 unfold tab
 exact List.map_congr_left fun p hp => by rw [h p hp]
theorem insAll_nodup : ∀ (ps D : List Row), (D ++ ps).Nodup -> insAll D ps = D ++ ps
 | [], D, _ => by rw [List.append_nil]; rfl
 | p :: ps, D, h => by
  have hp : p ∉ D := fun z => by
   rw [List.nodup_append] at h
   exact h.2.2 p z p (by simp) rfl
  show insAll (ins1 D p) ps = _
  rw [ins1_new hp, insAll_nodup ps (D ++ [p]) (by rw [List.append_assoc]; exact h), List.append_assoc]
  rfl
section
variable {P : Program} {w : World} {K : PySem.W.Frag} {mg : Str -> Option Value} {base : Heap}
theorem scMDay : FnScope ["self", "parts", "days", "measure", "by_day", "now", "told", "day", "part"] ["self", "parts", "days", "measure"] (defScope sMDay) := ⟨rfl, rfl, rfl, by decide +kernel, rfl, by decide +kernel, by decide +kernel⟩
theorem ok_mday {f C CP fB fS : Addr} {fd fdB fdS : FuncData} (F : Fun K "measured_by_day" "Future.measured_by_day" sMDay f fd) (T : FTxt K mg C) (TT : Txt K mg) (hdict : mg "dict" = none) (MB : MDef K C "parts_by_day" "Future.parts_by_day" sByDay fB fdB ["self", "parts", "days"])
  (GB : FnOk P w K mg base CX0 8 fB fdB ["self", "parts", "days"] (spByDay P w C CP)) (MS : MDef K C "sums" "Future.sums" sSums fS fdS ["self", "parts", "next_day"]) (GS : FnOk P w K mg base CX0 8 fS fdS ["self", "parts", "next_day"] (spSums P w C CP)) :
  FnOk P w K mg base CX0 9 f fd ["self", "parts", "days", "measure"] (spMDay P w C CP) := by
 refine F.ok scMDay (fun vs H Q E h => ?_) (fun cdv A outer s H vs Q E hr h => ?_)
 ·obtain ⟨f', q, d, e, A', g, l, n, y, m, U, Ls, ws, rfl, _⟩ := h
  rfl
 ·obtain ⟨f', q, d, e, A', g, l, n, y, m, U, Ls, ws, rfl, hfut, hA, tv, L15, hyM, hm, kQ⟩ := h
  have hu2 : (A.deeper (PyProof.Rows.envOfC "Future.measured_by_day" (defScope sMDay) s.heap.objs.size f cdv)).units + 2 < cLine := by have := hr.units; omega
  have hr1 : Room 1 (A.deeper (PyProof.Rows.envOfC "Future.measured_by_day" (defScope sMDay) s.heap.objs.size f cdv)) := hr.mono (by decide)
  refine ⟨_, pss_cons (ps_set (i := 4) scMDay.nd rfl (Or.inl rfl) (pe_meth (pv 0) T.cl MB.me GB hr MB.b .nil pass0 (pa_cons (pv 1) (pa_cons (pv 2) pa_nil))))
   (pss_cons (ps_set (i := 5) scMDay.nd rfl (Or.inl rfl) (pe_callTy (call_dictT hu2 rfl) (by rfl) hdict PyProof.Rows.boot_dict (pa_cons
     (pe_lc (own := [("part", 8)]) (g := gName 8) (te := tTup (tCons (tVar 8) (tCons (tMeas 3 (tVar 8)) tNil))) rfl scMDay.nd (pi_list (pe_ix ix_list (pv 4) (pv 2) (fun _ _ => rfl))) (blkOk_by (by kernel_rfl))
      (fun _ _ _ _ _ => by exact pg_name (i := 8) scMDay.nd rfl (Or.inl rfl)) (fun _ _ _ _ _ => pts_nil) (fun _ _ _ _ _ => by exact pe_tup (pa_cons (pv 8) (pa_cons (pe_meas (i := 3) rfl (by first | exact Or.inl rfl | exact Or.inr (Or.inl rfl) | exact Or.inr (Or.inr rfl)) hr1 TT.len (pv 8)) pa_nil)))) pa_nil)))
   (pss_cons (ps_set (i := 6) scMDay.nd rfl (Or.inl rfl) (pe_lst (pa_cons (pv 5) pa_nil)))
   (pss_cons (ps_for PassesOwn.never rfl (pi_range3 rfl TT.range (pa_cons (pe_op op_sub (pv 2) pe_int) (pa_cons (pe_un un_neg pe_int) (pa_cons (pe_un un_neg pe_int) pa_nil)))) (pg_name (i := 7) scMDay.nd rfl (Or.inl rfl))
    (pss_cons (ps_set (i := 5) scMDay.nd rfl (Or.inl rfl) (pe_meth (pv 0) T.cl MS.me GS hr MS.b .nil pass0 (pa_cons (pe_ix ix_list (pv 4) (pv 7) (fun _ _ => rfl)) (pa_cons (pv 5) pa_nil))))
     (pss_one (ps_expr (pe_bm PySem.F.plainAttrs_list PySem.F.slot_list_append PySem.F.type_list_append mt_append (pv 6) (pa_cons (pv 5) pa_nil))))))
   (pss_cons (ps_expr (pe_bm0 PySem.F.plainAttrs_list PySem.F.slot_list_reverse PySem.F.type_list_reverse mt_reverse (pv 6)))
   (pss_one (ps_ret (pv 6))))))), ?_⟩
  obtain ⟨dxf, hf⟩ := hfut.ob
  refine ⟨_, rfl, f', dxf, _, rfl, hf, ff_no _ _ (by decide +kernel) (by decide +kernel), _, rfl, _, rfl, ?_⟩
  refine ⟨f', q, d, e, A', l, n, y, U, Ls, ws, rfl, hfut, hA, tv, L15, fun B vb Ls1 H1 hB hBL hB1 lv1 nBv hfut1 fr1 => ?_⟩
  have hm1 := hm.fr2 hfut fr1
  obtain ⟨⟨φ, hd⟩, kv0, he⟩ := hfut.here
  obtain ⟨⟨φ1, hd1⟩, kv1, he1⟩ := hfut1.here
  have dsGet : ∀ k, k <= n -> (Ds l n)[k]? = some (dayD k (partsOf l)) := fun k hk => by
   unfold Ds
   rw [List.getElem?_map, List.getElem?_range (by omega)]
   rfl
  obtain ⟨Ln, wn, hn1, hn2, hn3⟩ := lv1.get (dsGet n (Nat.le_refl _))
  obtain ⟨rs, ewn, eps, hrs⟩ := hn3.refs
  subst ewn
  have fewD := few_rows (U := U) (nodup_dayD n (partsOf l)) L15.fewU (L15.rows (Nat.le_refl n))
  have lrs : rs.length < 16777216 := by
   have : rs.length = (dayD n (partsOf l)).length := by rw [eps, List.length_map]
   omega
  refine ⟨_, rfl, _, rfl, B, _, _, _, rfl, rfl, SqL.of hB1, atI_nat hn1, Ln, rfl, ⟨_, SqL.of hn2⟩, fun Dl hDl => ?_⟩
  refine lc_list (K := K) (a := Ln) (xs := rs.map fun x => V.ref x.2) (fun i H2 => Same H1 H2 /\ ∃ ts : List Addr, H2 Dl = some (.lst (ts.map V.ref)) /\ ts.length = i /\ Paired (fun (p : Addr) (q : List Key × Addr × V) => SqT K H2 p [.ref q.2.1, q.2.2] /\ H2 q.2.1 = some (.tup (q.1.map kV))) ts ((rs.take i).map fun x => (kR x.1, x.2, iV m.f x.1)))
   ⟨same_new hDl, [], upd_same, rfl, .nil⟩ (fun i H2 _ z => SqL.of (z.1 _ _ hn2)) ?_ ?_
  ·rintro i x H2 hi ⟨s2, ts, hD2, lt, pr⟩
   rw [List.getElem?_map] at hi
   cases et : rs[i]? with
   | none => rw [et] at hi; cases hi
   | some z =>
    rw [et] at hi
    obtain rfl : V.ref z.2 = x := Option.some.inj hi
    have hil : i < rs.length := (List.getElem?_eq_some_iff.mp et).1
    have hz := hrs z (List.mem_of_getElem? et)
    have hm2 := hm1.same s2
    refine ⟨rfl, ?_⟩
    unfold tYes
    dsimp only
    rw [if_pos rfl]
    refine ⟨_, rfl, g, m, rfl, hm2, _, rfl, z.2, z.1, rfl, s2 _ _ hz, hm2, (by show 2 <= sizeLine; decide), fun t ht => ?_⟩
    have s3 : Same H2 (upd H2 t (.tup [V.ref z.2, V.int (m.f z.1 : Int)])) := same_new ht
    have hD3 := s3 _ _ hD2
    refine ⟨_, hD3, line_lt (by rw [List.length_map, lt]; omega), fun b o x => ?_, ts ++ [t], by rw [upd_same, List.map_append]; rfl, by rw [List.length_append, lt]; rfl, ?_⟩
    ·rw [upd_ne (ne_of_none x hDl)]
     exact s3 _ _ (s2 _ _ x)
    ·have m4 : ∀ b xs, (upd H2 t (.tup [V.ref z.2, V.int (m.f z.1 : Int)])) b = some (.tup xs) -> (upd (upd H2 t (.tup [V.ref z.2, V.int (m.f z.1 : Int)])) Dl (.lst (ts.map V.ref ++ [V.ref t]))) b = some (.tup xs) := fun b xs x => by rw [upd_ne (ne_of x hD3 (by intro z; cases z))]; exact x
     obtain ⟨hl', el⟩ := List.getElem?_eq_some_iff.mp et
     rw [List.take_succ_eq_append_getElem hl', el, List.map_append]
     refine Paired.snoc (Paired.mapP pr fun a b ⟨q1, q2⟩ => ⟨?_, m4 _ _ (s3 _ _ q2)⟩) ⟨SqT.of (m4 _ _ upd_same), ?_⟩
     ·rcases q1 with (q1 | ⟨o, q1⟩) | q1
      ·exact .inl (.inl (m4 _ _ (s3 _ _ q1)))
      ·refine .inl (.inr ⟨o, ?_⟩)
       rw [upd_ne (ne_of (s3 _ _ q1) hD3 (by intro z; cases z))]
       exact s3 _ _ q1
      ·exact .inr q1
     ·refine m4 _ _ (s3 _ _ (s2 _ _ ?_))
      rw [kR_V]
      exact hz
  rintro H2 ⟨s2, ts, hD2, lt, pr⟩
  rw [List.length_map, List.take_length] at pr
  refine ⟨Dl, ts, _, rfl, SqL.of hD2, pr, fun M0 hM0 => ?_⟩
  rw [mergeT_tab (iV m.f) rs, <- eps, insAll_nodup _ [] (by rw [List.nil_append]; exact nodup_dayD n (partsOf l)), List.nil_append]
  have s3 := s2.trans (same_new (o := .dT (tab (dayD n (partsOf l)) (iV m.f))) hM0)
  refine ⟨_, rfl, (by show 1 <= sizeLine; decide), fun T0 hT0 => ?_⟩
  have s4 := s3.trans (same_new (o := .lst [V.ref M0]) hT0)
  have hT1n : H1 T0 = none := s3.free hT0
  have hT0n : H T0 = none := fr1.free hT1n
  have nM0T : M0 ≠ T0 := ne_of_none upd_same hT0
  have nTd : T0 ≠ d := fun z => by rw [z, hd] at hT0n; cases hT0n
  have nTe : T0 ≠ e := fun z => by rw [z, he] at hT0n; cases hT0n
  have nTB : T0 ≠ B := fun z => by rw [z, hB1] at hT1n; cases hT1n
  have nTvb : V.ref T0 ∉ vb := fun z => by
   obtain ⟨i, hi⟩ := List.mem_iff_getElem?.mp z
   have hil := (List.getElem?_eq_some_iff.mp hi).1
   rw [<- lv1.len] at hil
   obtain ⟨L, wz, h1, h2, _⟩ := lv1.get (List.getElem?_eq_getElem hil)
   rw [hi] at h1
   cases h1
   rw [hT1n] at h2
   cases h2
  have hM04 : (upd (upd H2 M0 (.dT (tab (dayD n (partsOf l)) (iV m.f)))) T0 (.lst [V.ref M0])) M0 = some (.dT (tab (dayD n (partsOf l)) (iV m.f))) := by rw [upd_ne nM0T, upd_same]
  have nM0e : M0 ≠ e := fun z => by
   have : H2 e = none := by rw [<- z]; exact hM0
   rw [s2 _ _ he1] at this
   cases this
  refine ⟨_, rfl, _, _, rfl, rfl, _, rfl, _, rfl, (n : Int) - 1, -1, -1, n, rfl, ?_, ?_⟩
  ·have := RgC.neg (i := (n : Int) - 1) (j := -1) (by have := L15.n15; omega) (by have := L15.n15; omega) (by decide) (by decide)
   rwa [show ((n : Int) - 1 - -1).toNat = n from by omega] at this
  have ND := fun k => nodup_dayD k (partsOf l)
  have fr4 : Fr2 H (upd (upd H2 M0 (.dT (tab (dayD n (partsOf l)) (iV m.f)))) T0 (.lst [V.ref M0])) d e Ls Ls1 := ⟨fun b o x h1 h2 => s4 _ _ (fr1.keep b o x h1 h2), ⟨⟨_, s4 _ _ hd1⟩, _, s4 _ _ he1⟩, fr1.ls⟩
  have T0Ls : T0 ∉ Ls1 := fun z => by
   obtain ⟨vz, hz⟩ := hfut1.lsH T0 z
   rw [hT1n] at hz
   cases hz
  refine for_rangeC (lo := (n : Int) - 1) (c := -1) (n := n) (fun j σ H5 => ∃ (v7 v8 : Option V) (M : Addr) (vs : List V) (Ls5 : List Addr), σ = [some (.ref f'), some (.ref A'), some (.int (n : Int)), some (.ref g), some (.ref B), some (.ref M), some (.ref T0), v7, v8] /\
    H5 B = some (.lst vb) /\ LstsV H5 (Ds l n) vb /\ H5 M = some (.dT (tab (dayD (n - j) (partsOf l)) (iV fun p => m.f (Rc75.later j p)))) /\ M ≠ e /\ H5 T0 = some (.lst vs) /\ vs.length = j + 1 /\
    (∀ i, i <= j -> ∃ M', vs[i]? = some (.ref M') /\ M' ≠ e /\ H5 M' = some (.dT (tab (dayD (n - i) (partsOf l)) (iV fun p => m.f (Rc75.later i p))))) /\ T0 ∉ Ls5 /\
    FutAt P w C CP H5 f' q d e (y + addD l n + (addD l n - addD l (n - j))) U Ls5 /\ Fr2 H H5 d e Ls Ls5)
   ⟨none, none, M0, [V.ref M0], Ls1, rfl, s4 _ _ hB1, lv1.same (fun b o x _ => s4 _ _ x), hM04, nM0e, upd_same, rfl, fun i hi => ⟨M0, by rw [show i = 0 from by omega]; rfl, nM0e, by rw [show i = 0 from by omega]; exact hM04⟩, T0Ls, by rw [Nat.sub_zero, Nat.sub_self, Nat.add_zero]; exact hfut1.same s4, fr4⟩ ?_ ?_
  ·rintro j σ H5 hj ⟨v7, v8, M, vs, Ls5, rfl, hB5, lv5, hM5, nMe, hT5, lvs, tbl5, nTL5, hfut5, fr5⟩
   obtain ⟨k, hk⟩ : ∃ k, n - j = k + 1 := ⟨n - j - 1, by omega⟩
   have hkn : k < n := by omega
   obtain ⟨Lk, wk, hk1, hk2, hk3⟩ := lv5.get (dsGet k (by omega))
   obtain ⟨dxf5, hf5⟩ := hfut5.ob
   have eday : (n : Int) - 1 + (j : Nat) * (-1) = (k : Int) := by omega
   refine ⟨_, rfl, f', dxf5, _, rfl, hf5, ff_no _ _ (by decide +kernel) (by decide +kernel), _, rfl, _, rfl, B, _, _, _, rfl, rfl, SqL.of hB5, at_of (j := k) eday hk1, _, rfl, ?_⟩
   have eadd : addD l (n - j) = addD l k + addR (Rc75.later (k + 1) l) := by rw [hk]; rfl
   have mono : addD l (n - j) <= addD l n := Look15.addMono (by omega)
   rw [hk] at hM5
   refine ⟨f', q, d, e, Lk, M, l, n, k, _, y, U, Ls5, wk, fun p => m.f (Rc75.later j p), rfl, hfut5, hk2, hk3, L15, hkn, by omega, hM5, nMe, fun M' Ls6 H6 hM' hM6 hfut6 fr6 => ?_⟩
   have et : tab (dayD k (partsOf l)) (iV fun p => ((kids p).map fun p => m.f (Rc75.later j p)).sum) = tab (dayD (n - (j + 1)) (partsOf l)) (iV fun p => m.f (Rc75.later (j + 1) p)) := by
    rw [show n - (j + 1) = k from by omega]
    refine tab_congr fun p hp => ?_
    show V.int ((((kids p).map fun p => m.f (Rc75.later j p)).sum : Nat) : Int) = V.int ((m.f (Rc75.later (j + 1) p) : Nat) : Int)
    rw [m.adds.later (L15.rows (by omega) p hp).1 j]
    rfl
   rw [et] at hM6
   have hd5 := hfut5.here.1
   obtain ⟨_, kv5, he5⟩ := hfut5.here
   obtain ⟨φ5, hd5⟩ := hd5
   have kl : ∀ b xs, H5 b = some (.lst xs) -> H6 b = some (.lst xs) := fun b xs x => fr6.keep _ _ x (ne_of x hd5 (by intro z; cases z)) (ne_of x he5 (by intro z; cases z))
   have kt : ∀ b xs, H5 b = some (.tup xs) -> H6 b = some (.tup xs) := fun b xs x => fr6.keep _ _ x (ne_of x hd5 (by intro z; cases z)) (ne_of x he5 (by intro z; cases z))
   have hT6 := kl _ _ hT5
   have nM'T : M' ≠ T0 := fun z => by rw [z, hT5] at hM'; cases hM'
   have nM'e : M' ≠ e := fun z => by rw [z, he5] at hM'; cases hM'
   refine ⟨_, rfl, .inl ⟨rfl, _, SqL.of hT6⟩, _, rfl, T0, _, _, rfl, rfl, hT6, line_lt (by have := L15.n15; omega), ?_⟩
   have m7 : ∀ b o, H6 b = some o -> b ≠ T0 -> (upd H6 T0 (.lst (vs ++ [.ref M']))) b = some o := fun b o x hb => by rw [upd_ne hb]; exact x
   have nTL6 : T0 ∉ Ls6 := fun z => (fr6.ls T0 z).elim nTL5 fun z2 => by
    rw [hT5] at z2
    cases z2
   have fr06 := fr5.trans fr6
   have hM'7 := m7 _ _ hM6 nM'T
   refine ⟨_, _, M', vs ++ [.ref M'], Ls6, rfl, m7 _ _ (kl _ _ hB5) nTB.symm, lv5.same (fun b o x z => ?_), hM'7, nM'e, upd_same, by rw [List.length_append, lvs]; rfl, fun i hi => ?_, nTL6, ?_, ⟨fun b o x h1 h2 => m7 b o (fr06.keep b o x h1 h2) (fun z => by rw [z, hT0n] at x; cases x), ⟨let ⟨o, z⟩ := fr06.here.1; ⟨o, m7 _ _ z nTd.symm⟩, let ⟨o, z⟩ := fr06.here.2; ⟨o, m7 _ _ z nTe.symm⟩⟩, fr06.ls⟩⟩
   ·rcases z with ⟨xs, rfl⟩ | ⟨⟨xs, rfl⟩, hb⟩
    ·exact m7 b _ (kt _ _ x) (ne_of x hT5 (by intro z; cases z))
    ·exact m7 b _ (kl _ _ x) fun z => nTvb (by rw [<- z]; exact hb)
   ·by_cases h : i <= j
    ·obtain ⟨Mi, h1, hMie, h2⟩ := tbl5 i h
     have nMid : Mi ≠ d := ne_of h2 hd5 (by intro z; cases z)
     exact ⟨Mi, by rw [List.getElem?_append_left (by omega)]; exact h1, hMie, m7 _ _ (fr6.keep _ _ h2 nMid hMie) (ne_of h2 hT5 (by intro z; cases z))⟩
    ·have hij : i = j + 1 := by omega
     subst hij
     exact ⟨M', by rw [List.getElem?_append_right (by omega), show j + 1 - vs.length = 0 from by omega]; rfl, nM'e, hM'7⟩
   ·have ey : y + addD l n + (addD l n - addD l (n - j)) + addR (Rc75.later (k + 1) l) = y + addD l n + (addD l n - addD l (n - (j + 1))) := by
     rw [show n - (j + 1) = k from by omega]
     omega
    rw [ey] at hfut6
    exact hfut6.but (z := T0) (fun b o x hb => m7 b o x hb) (.inl ⟨_, hT6, nTL6⟩)
  ·rintro σ H5 ⟨v7, v8, M, vs, Ls5, rfl, hB5, lv5, hM5, nMe, hT5, lvs, tbl5, nTL5, hfut5, fr5⟩
   refine ⟨_, rfl, .inl ⟨rfl, _, SqL.of hT5⟩, T0, _, rfl, rfl, hT5, ?_⟩
   have m7 : ∀ b o, H5 b = some o -> b ≠ T0 -> (upd H5 T0 (.lst vs.reverse)) b = some o := fun b o x hb => by rw [upd_ne hb]; exact x
   refine ⟨_, rfl, kQ T0 vs.reverse Ls5 _ hT0n upd_same ⟨by rw [List.length_reverse, lvs], fun k hk => ?_⟩ ?_ ⟨fun b o x h1 h2 => m7 b o (fr5.keep b o x h1 h2) (fun z => by rw [z, hT0n] at x; cases x), ⟨let ⟨o, z⟩ := fr5.here.1; ⟨o, m7 _ _ z nTd.symm⟩, let ⟨o, z⟩ := fr5.here.2; ⟨o, m7 _ _ z nTe.symm⟩⟩, fr5.ls⟩⟩
   ·obtain ⟨Mi, h1, _, h2⟩ := tbl5 (n - k) (by omega)
    refine ⟨Mi, ?_, ?_⟩
    ·rw [List.getElem?_reverse (by omega), show vs.length - 1 - k = n - k from by omega]
     exact h1
    ·rw [show n - (n - k) = k from by omega] at h2
     exact m7 _ _ h2 (ne_of h2 hT5 (by intro z; cases z))
   ·have ey : y + addD l n + (addD l n - addD l (n - n)) = y + 2 * addD l n := by
     rw [Nat.sub_self]
     show y + addD l n + (addD l n - 0) = _
     omega
    rw [ey] at hfut5
    exact hfut5.but (z := T0) (fun b o x hb => m7 b o x hb) (.inl ⟨_, hT5, nTL5⟩)
end
end RA
end
section
namespace RA
open PySem L2
open Rc75 (Row)
theorem FutAt.parted {P : Program} {w : World} {CF CP : Addr} {H H' : Hp} {f q d e : Addr} {y y' : Nat} {U : List Row} {Ls : List Addr} (h : FutAt P w CF CP H f q d e y U Ls) (k : But H H' d) (p : PartAt P w CP H' q d y') : FutAt P w CF CP H' f q d e y' U Ls := by
 obtain ⟨φ, hd⟩ := h.part.ext
 obtain ⟨⟨dx, ob⟩, part, ⟨kvs, h1, h2, h3⟩, hls⟩ := h
 refine ⟨⟨dx, k _ _ ob (ne_of ob hd (by intro z; cases z))⟩, p, ⟨kvs, k _ _ h1 (ne_of h1 hd (by intro z; cases z)), h2, fun a v hm => ?_⟩, fun L hL => let ⟨vs, z⟩ := hls L hL; ⟨vs, k _ _ z (ne_of z hd (by intro z; cases z))⟩⟩
 obtain ⟨p', L, vs, e1, e2, e3, e4, e5, e6, e7⟩ := h3 a v hm
 exact ⟨p', L, vs, e1, e2, e3, e4, k _ _ e5 (ne_of e5 hd (by intro z; cases z)), e6.same fun b ys x => k _ _ x (ne_of x hd (by intro z; cases z)), e7⟩
theorem FutAt.fr {P : Program} {w : World} {CF CP : Addr} {H H' : Hp} {f q d e : Addr} {y : Nat} {U : List Row} {Ls : List Addr} (h : FutAt P w CF CP H' f q d e y U Ls) (k : But H H' d) : Fr2 H H' d e Ls Ls :=
 ⟨fun b o x n _ => k b o x n, ⟨let ⟨φ, z⟩ := h.here.1; ⟨_, z⟩, let ⟨kv, z⟩ := h.here.2; ⟨_, z⟩⟩, fun _ z => .inl z⟩
def spMeas (P : Program) (w : World) (K : PySem.W.Frag) (CF CP : Addr) : Sp := fun vs H Q _ => ∃ (f q d e a g : Addr) (l : Row) (n y : Nat) (m : Meas) (U : List Row) (Ls : List Addr), vs = [.ref f, .ref a, .int (n : Int), .ref g] /\ FutAt P w CF CP H f q d e y U Ls /\ SqL K H a (rV l) /\ Look15 l n U (y + addR l) /\
 y + addR l + 2 * addD l n <= YMax /\ MeasV H g m /\
 ∀ (Ls' : List Addr) (H' : Hp), FutAt P w CF CP H' f q d e (y + addR l + 2 * addD l n) U Ls' -> Fr2 H H' d e Ls Ls' -> Q (.int (m.f (Rc75.later n l) : Int)) H'
section
variable {P : Program} {w : World} {K : PySem.W.Frag} {mg : Str -> Option Value} {base : Heap}
theorem scMeas : FnScope ["self", "row", "days", "measure", "parts", "today", "part"] ["self", "row", "days", "measure"] (defScope sMeas) := ⟨rfl, rfl, rfl, by decide +kernel, rfl, by decide +kernel, by decide +kernel⟩
theorem ok_meas {f C CP fP fD : Addr} {fd fdP fdD : FuncData} (F : Fun K "measured" "Future.measured" sMeas f fd) (T : FTxt K mg C) (TK : KTxt K mg CP) (hsum : mg "sum" = none) (MP : MDef K CP "parts" "Parting.parts" sParts fP fdP ["self", "row"])
  (GP : FnOk P w K mg base CX0 9 fP fdP ["self", "row"] (spParts P w K CP)) (MD : MDef K C "measured_by_day" "Future.measured_by_day" sMDay fD fdD ["self", "parts", "days", "measure"]) (GD : FnOk P w K mg base CX0 9 fD fdD ["self", "parts", "days", "measure"] (spMDay P w C CP)) :
  FnOk P w K mg base CX0 10 f fd ["self", "row", "days", "measure"] (spMeas P w K C CP) := by
 refine F.ok scMeas (fun vs H Q E h => ?_) (fun cdv A outer s H vs Q E hr h => ?_)
 ·obtain ⟨f', q, d, e, a, g, l, n, y, m, U, Ls, rfl, _⟩ := h
  rfl
 ·obtain ⟨f', q, d, e, a, g, l, n, y, m, U, Ls, rfl, hfut, hS, L15, hyM, hm, kQ⟩ := h
  refine ⟨_, pss_cons (ps_set (i := 4) scMeas.nd rfl (Or.inl rfl) (pe_meth (pe_fld (pv 0) rfl) TK.cl MP.me GP hr MP.b .nil pass0 (pa_cons (pv 1) pa_nil)))
   (pss_cons (ps_set (i := 5) scMeas.nd rfl (Or.inr rfl) (pe_ix ix_list (pe_meth (pv 0) T.cl MD.me GD hr MD.b .nil pass0 (pa_cons (pv 4) (pa_cons (pv 2) (pa_cons (pv 3) pa_nil)))) pe_int (fun _ _ => rfl)))
   (pss_one (ps_ret (pe_callB (cr_sum rfl) (by rfl) hsum PyProof.Rows.boot_sum (pa_cons
     (pe_lc (own := [("part", 6)]) (g := gName 6) (te := tDGet (tVar 5) (tVar 6)) rfl scMeas.nd (pi_list (pv 4)) (blkOk_by (by kernel_rfl))
      (fun _ _ _ _ _ => by exact pg_name (i := 6) scMeas.nd rfl (Or.inl rfl)) (fun _ _ _ _ _ => pts_nil) (fun _ _ _ _ _ => by exact pe_dget (hu_of hr) (pv 5) (pv 6) (fun _ _ => rfl))) pa_nil))))), ?_⟩
  obtain ⟨dxf, hf⟩ := hfut.ob
  obtain ⟨dq, hq⟩ := hfut.part.ob
  have h0 : l.length <= 16777216 := L15.sz 0 (Nat.zero_le _)
  refine ⟨_, rfl, f', C, dxf, _, _, rfl, hf, T.cl, T.nP, ff_part _ _, q, dq, _, rfl, hq, kf_no _ (by decide +kernel), _, rfl, ?_⟩
  refine ⟨q, d, a, l, y, y + addR l, rfl, hfut.part, hS, L15.pl, h0, addR_ok l y, by omega, fun A' ws H1 hA hA1 tv part1 k1 => ?_⟩
  have hfut1 := hfut.parted k1 part1
  have fr1 := hfut1.fr k1
  have hm1 := hm.fr2 hfut fr1
  obtain ⟨dxf1, hf1⟩ := hfut1.ob
  refine ⟨_, rfl, f', dxf1, _, rfl, hf1, ff_no _ _ (by decide +kernel) (by decide +kernel), _, rfl, _, rfl, _, rfl, ?_⟩
  refine ⟨f', q, d, e, A', g, l, n, _, m, U, Ls, ws, rfl, hfut1, hA1, tv, L15, hyM, hm1, fun T0 vs Ls2 H2 hT hT2 dv hfut2 fr2 => ?_⟩
  obtain ⟨M, hM1, hM2⟩ := dv.2 0 (Nat.zero_le _)
  refine ⟨T0, _, _, _, rfl, rfl, SqL.of hT2, at_of (j := 0) rfl hM1, ?_⟩
  obtain ⟨⟨φ, hd⟩, kv0, he⟩ := hfut1.here
  have hA2 := fr2.keep _ _ hA1 (ne_of hA1 hd (by intro z; cases z)) (ne_of hA1 he (by intro z; cases z))
  have tv2 : TupsV H2 (partsOf l) ws := tv.same fun b ys x => fr2.keep _ _ x (ne_of x hd (by intro z; cases z)) (ne_of x he (by intro z; cases z))
  have lws : ws.length <= 16777216 := by
   rw [<- tv.len]
   have := cuts_few l
   unfold partsOf cutEnds
   rw [List.length_map, List.length_zip, List.length_cons, List.length_append]
   show min _ (_ + 1) <= _
   by_cases hl0 : l.length = 0
   ·rw [hl0] at this; omega
   ·omega
  refine ⟨_, rfl, A', rfl, ⟨_, SqL.of hA2⟩, fun Dl hDl => ?_⟩
  refine lc_list (K := K) (a := A') (xs := ws) (fun i H4 => Same H2 H4 /\ H4 Dl = some (.lst (((partsOf l).take i).map fun c => V.int (m.f (Rc75.later n c) : Int)))) ⟨same_new hDl, upd_same⟩ (fun i H4 _ z => SqL.of (z.1 _ _ hA2)) ?_ ?_
  ·rintro i x H4 hi ⟨s4, hD4⟩
   obtain ⟨c, rc, hc1, rfl, hrc⟩ := tv2.get hi
   obtain ⟨hil, ec⟩ := List.getElem?_eq_some_iff.mp hc1
   refine ⟨rfl, ?_⟩
   unfold tYes
   dsimp only
   rw [if_pos rfl]
   have hrc4 : H4 rc = some (.tup ((kR c).map kV)) := by rw [kR_V]; exact s4 _ _ hrc
   have hcm : c ∈ dayD 0 (partsOf l) := (mem_dayD 0 (partsOf l) c).mpr (List.mem_of_getElem? hc1)
   have ev := val_tab (g := iV fun p => m.f (Rc75.later (n - 0) p)) hcm
   have hil2 : i < ws.length := (List.getElem?_eq_some_iff.mp hi).1
   refine ⟨_, rfl, _, rfl, M, _, rfl, ev ▸ DGet.t (s4 _ _ hM2) hrc4, _, hD4, line_lt (by rw [List.length_map, List.length_take]; omega), fun b o x => ?_, ?_⟩
   ·rw [upd_ne (ne_of_none x hDl)]
    exact s4 _ _ x
   ·rw [upd_same, List.take_succ_eq_append_getElem hil, ec, List.map_append]
    rfl
  ·rintro H4 ⟨s4, hD4⟩
   have ek : (partsOf l).take ws.length = partsOf l := List.take_of_length_le (by rw [<- tv.len]; exact Nat.le_refl _)
   rw [ek] at hD4
   have eI : ((partsOf l).map fun c => V.int (m.f (Rc75.later n c) : Int)) = ((partsOf l).map fun c => (m.f (Rc75.later n c) : Int)).map V.int := by rw [List.map_map]; rfl
   rw [eI] at hD4
   refine ⟨Dl, _, rfl, SqL.of hD4, ?_⟩
   rw [sum_ints, <- m.adds.now L15.pl n]
   have fr12 := fr1.trans fr2
   exact kQ Ls2 H4 (hfut2.same s4) ⟨fun b o x h1 h2 => s4 _ _ (fr12.keep b o x h1 h2), ⟨let ⟨o, z⟩ := fr12.here.1; ⟨o, s4 _ _ z⟩, let ⟨o, z⟩ := fr12.here.2; ⟨o, s4 _ _ z⟩⟩, fr12.ls⟩
structure FunC (K : PySem.W.Frag) (x qual : Str) (st : Stmt) (f : Addr) (fd : FuncData) (c : Addr) : Prop where
 ex : ∃ (oc : Value) (od : Option Addr) (kV doc pm : Value) (an : Option Addr) (ct : Value) (osl : Array (Option Value)),
  fd = PySem.W.fnOf x qual (defArgs st) (defBody st) (defScope st) .none kV doc pm an (.ref c) ct /\ K.lookup f = some ⟨oc, od, .func fd, osl⟩ /\ PySem.W.codeIn K (.ref c) qual = true
theorem FunC.ok {x qual : Str} {st : Stmt} {f c : Addr} {fd : FuncData} {N ps : List Str} {k : Nat} {sp : Sp} (F : FunC K x qual st f fd c) (S : FnScope N ps (defScope st)) (len : ∀ vs H Q E, sp vs H Q E -> vs.length = ps.length)
  (hbody : ∀ (A : Around) (outer : List Env) (s : Shared) (H : Hp) (vs : List V) (Q : VK) (E : XK), Room k (A.deeper (PyProof.Rows.envOfC qual (defScope st) s.heap.objs.size f (.ref c))) -> sp vs H Q E ->
   ∃ t, PSs (cxOf CX0 P w K mg base N qual (defScope st) f (.ref c) A outer s H E).nox (defBody st) t /\ t { nx := fun _ H' => Q .non H', rt := Q } (start N vs) H) : FnOk P w K mg base CX0 (k + 1) f fd ps sp := by
 obtain ⟨oc, od, kV, doc, pm, an, ct, osl, rfl, lk, hcd⟩ := F.ex
 refine fn_of lk hcd S len fun A outer s H vs Q E hr hsp => ?_
 obtain ⟨t, h, q⟩ := hbody A outer s H vs Q E hr hsp
 exact ⟨t, h.nox, q⟩
def lamParams : Expr -> Arguments
 | .Lambda a _ _ _ => a
 | _ => { posonlyargs := [], args := [], vararg := none, kwonlyargs := [], kw_defaults := [], kwarg := none, defaults := [] }
def lamBody : Expr -> Expr
 | .Lambda _ b _ _ => b
 | e => e
def lamScope : Expr -> Scope
 | .Lambda _ _ s _ => s
 | _ => { kind := .function, names := [], isGenerator := false, isCoroutine := false }
def lamPos : Expr -> Pos
 | .Lambda _ _ _ p => p
 | _ => ⟨0, 0, 0, 0⟩
def argOf (e : Expr) (k : Nat) : Expr := match e with
 | .Call _ as _ _ => as.getD k e
 | _ => e
def retE : Stmt -> Expr
 | .Return (some e) _ => e
 | .Assign _ e _ => e
 | _ => .Name "" ⟨0, 0, 0, 0⟩
def lamLen : Expr := argOf (retE ((defBody sLenL).getD 0 (.Pass ⟨0, 0, 0, 0⟩))) 2
def lamOften : Expr := argOf (retE ((defBody sOften).getD 0 (.Pass ⟨0, 0, 0, 0⟩))) 2
def lamDigit : Expr := argOf (retE ((defBody sDigitL).getD 1 (.Pass ⟨0, 0, 0, 0⟩))) 2
def mkLam (e : Expr) (clos : List (Str × Addr)) (pm : Value) (qual : Str) : Lam := ⟨lamParams e, lamBody e, lamScope e, clos, pm, qual⟩
theorem lamLen_cell : ∀ x ∈ (lamScope lamLen).names, x.2 ≠ .cell := by decide +kernel
theorem lamLen_free : ∀ x ∈ (lamScope lamLen).names, x.2 ≠ .free := by decide +kernel
theorem lamDigit_cell : ∀ x ∈ (lamScope lamDigit).names, x.2 ≠ .cell := by decide +kernel
theorem lamDigit_free : ∀ x ∈ (lamScope lamDigit).names, x.2 ≠ .free := by decide +kernel
theorem lamOften_cell : ∀ x ∈ (lamScope lamOften).names, x.2 ≠ .cell := by decide +kernel
theorem lamOften_free : ∀ x ∈ (lamScope lamOften).names, x.2 = .free -> x.1 = ("digit" : Str) := by decide +kernel
theorem len_lam (pm : Value) (qual : Str) : LenLam (mkLam lamLen [] pm qual) := ⟨⟨fun _ _ _ => rfl, rfl, rfl, rfl, lamLen_cell, rfl⟩, rfl, fun x h => lamLen_free _ (PySem.mem_of_lookup h) rfl, rfl, ⟨_, _, _, rfl⟩⟩
theorem digit_lam (pm : Value) (qual : Str) : LenLam (mkLam lamDigit [] pm qual) := ⟨⟨fun _ _ _ => rfl, rfl, rfl, rfl, lamDigit_cell, rfl⟩, rfl, fun x h => lamDigit_free _ (PySem.mem_of_lookup h) rfl, rfl, ⟨_, _, _, rfl⟩⟩
theorem often_lam (pm : Value) (qual : Str) (cl : Addr) : CntLam (mkLam lamOften [(("digit" : Str), cl)] pm qual) cl := ⟨⟨fun _ _ _ => rfl, rfl, rfl, rfl, lamOften_cell, rfl⟩, rfl, fun x h => lamOften_free _ (PySem.mem_of_lookup h) rfl, rfl, ⟨_, _, _, _, rfl, rfl⟩⟩
structure Fr3 (H H' : Hp) (d e t : Addr) (Ls Ls' : List Addr) : Prop where
 keep : ∀ b o, H b = some o -> b ≠ d -> b ≠ e -> b ≠ t -> H' b = some o
 here : (∃ o, H' d = some o) /\ (∃ o, H' e = some o) /\ ∃ o, H' t = some o
 ls : ∀ L, L ∈ Ls' -> L ∈ Ls \/ H L = none
theorem But.seqB {K : PySem.W.Frag} {H H' : Hp} {z c : Addr} {ps : Array Value} {xs : List V} (k : But H H' z) (hz : H z = some (.tbl ps)) (h : SqL K H c xs) : SqL K H' c xs := by
 rcases h with (h | ⟨o, h⟩) | h
 ·exact .inl (.inl (k _ _ h (ne_of h hz (by intro z; cases z))))
 ·exact .inl (.inr ⟨o, k _ _ h (ne_of h hz (by intro z; cases z))⟩)
 ·exact .inr h
theorem TabV.at {H : Hp} {t : Addr} {pos : Pos} {qual : Str} (x : TabV H t pos qual) : ∃ ps, H t = some (.tbl ps) := by
 rcases x with h | ⟨c, h, _⟩
 ·exact ⟨_, h⟩
 ·exact ⟨_, h⟩
theorem TabV.keep {H H' : Hp} {t : Addr} {pos : Pos} {qual : Str} (x : TabV H t pos qual) (k1 : ∀ ps, H t = some (.tbl ps) -> H' t = some (.tbl ps)) (k : ∀ b o, H b = some (Ex b o) -> o.isFreed = false -> (∀ es ep, o.data ≠ .dict es ep) -> H' b = some (Ex b o)) : TabV H' t pos qual := by
 rcases x with h | ⟨c, h, oc, vs, tk, h2, h3, h4⟩
 ·exact .inl (k1 _ h)
 ·exact .inr ⟨c, k1 _ h, oc, vs, tk, k _ _ h2 (Obj.isFreed_of_fields h3) (by intro _ _ z; rw [h3] at z; cases z), h3, h4⟩
def lenQual : Str := ("Future.length_later" : Str) ++ ".<locals>." ++ "<lambda>"
def spLenL (P : Program) (w : World) (K : PySem.W.Frag) (CF CP t : Addr) : Sp := fun vs H Q _ => ∃ (f q d e a : Addr) (l : Row) (n y : Nat) (U : List Row) (Ls : List Addr), vs = [.ref f, .ref a, .int (n : Int)] /\ FutAt P w CF CP H f q d e y U Ls /\ SqL K H a (rV l) /\ Look15 l n U (y + addR l) /\
 y + addR l + 2 * addD l n <= YMax /\ TabV H t (lamPos lamLen) lenQual /\
 ∀ (Ls' : List Addr) (H' : Hp), FutAt P w CF CP H' f q d e (y + addR l + 2 * addD l n) U Ls' -> Fr3 H H' d e t Ls Ls' -> TabV H' t (lamPos lamLen) lenQual -> Q (.int ((Rc75.later n l).length : Int)) H'
theorem scLenL : FnScope ["self", "row", "days"] ["self", "row", "days"] (defScope sLenL) := ⟨rfl, rfl, rfl, by decide +kernel, rfl, by decide +kernel, by decide +kernel⟩
theorem ok_lenl {f C CP fM c t : Addr} {fd fdM : FuncData} (F : FunC K "length_later" "Future.length_later" sLenL f fd c) (T : FTxt K mg C) (CH : PySem.W.CodeHd base c t) (B : BMain base mg) (MM : MDef K C "measured" "Future.measured" sMeas fM fdM ["self", "row", "days", "measure"])
  (GM : FnOk P w K mg base CX0 10 fM fdM ["self", "row", "days", "measure"] (spMeas P w K C CP)) : FnOk P w K mg base CX0 11 f fd ["self", "row", "days"] (spLenL P w K C CP t) := by
 refine F.ok scLenL (fun vs H Q E h => ?_) (fun A outer s H vs Q E hr h => ?_)
 ·obtain ⟨f', q, d, e, a, l, n, y, U, Ls, rfl, _⟩ := h
  rfl
 ·obtain ⟨f', q, d, e, a, l, n, y, U, Ls, rfl, hfut, hS, L15, hyM, htab, kQ⟩ := h
  refine ⟨_, pss_one (ps_ret (pe_meth (pv 0) T.cl MM.me GM hr MM.b .nil pass0 (pa_cons (pv 1) (pa_cons (pv 2) (pa_cons (pe_lam (c := c) (P := t) (l := mkLam lamLen [] ((mg "__name__").getD .none) lenQual) rfl CH B rfl rfl rfl rfl) pa_nil))))), ?_⟩
  obtain ⟨dxf, hf⟩ := hfut.ob
  obtain ⟨ps, ht⟩ := htab.at
  refine ⟨_, rfl, f', dxf, _, rfl, hf, ff_no _ _ (by decide +kernel) (by decide +kernel), _, rfl, _, rfl, htab, fun g H1 hg lam1 tab1 k1 => ?_⟩
  have hfut1 := hfut.but k1 (.inr (.inr ⟨ps, ht⟩))
  refine ⟨f', q, d, e, a, g, l, n, y, .len, U, Ls, rfl, hfut1, k1.seqB ht hS, L15, hyM, ⟨_, len_lam _ _, lam1⟩, fun Ls2 H2 hfut2 fr2 => ?_⟩
  obtain ⟨ps1, ht1⟩ := tab1.at
  obtain ⟨_, kv1, he1⟩ := hfut1.here
  obtain ⟨_, kv, Y, dk, _⟩ := hfut1.part
  obtain ⟨xs, hd1, _⟩ := dk.ex
  have ntd : t ≠ d := ne_of ht1 hd1 (by intro z; cases z)
  have nte : t ≠ e := ne_of ht1 he1 (by intro z; cases z)
  refine kQ Ls2 H2 hfut2 ⟨fun b o x h1 h2 h3 => fr2.keep _ _ (k1 b o x h3) h1 h2, ⟨fr2.here.1, fr2.here.2, ⟨_, fr2.keep _ _ ht1 ntd nte⟩⟩, fun L hL => (fr2.ls L hL).imp id fun z => ?_⟩ (tab1.keep (fun ps' x => fr2.keep _ _ x ntd nte) fun b o x h1 h2 => fr2.keep _ _ x (ex_ne x hd1 h1 h2) (ne_of x he1 (by intro z; cases z)))
  exact k1.free z ⟨_, ht1⟩
end
end RA
end
section
namespace RA
open PySem PyProof.Rows L2
open Rc75 (Row)
section
variable {X : Cx} {k : Nat} {f C cl : Addr} {fd : FuncData} {ps : List Str} {sp : Sp} {dvs : List V} {ds : List Value} {x m : Str} {pos apos : Pos} {e o : Expr} {es : List Expr} {ta : TE} {t : TA}
theorem run_fnX {pins : List (Addr × Obj)} {σ : L2.St} {H : Hp} {s : Shared} {Q : VK} {us : List Value} {vs : List V} {oc : Obj} (F : FnOk X.prog X.w X.K X.mg X.base CX0 k f fd ps sp) (hr : Room k X.A) (hb : Binds X.K fd ps ds) (hd : Vals dvs ds)
  (I : Inv X pins σ H s) (r : Vals vs us) (hcl : X.env.cells.lookup x = some cl) (hfn : X.fn x = true) (hoc : s.heap.get? cl = some oc)
  (h : sp (vs ++ dvs) (upd H cl (Ex cl oc)) (fun v H2 => H2 cl = some (Ex cl oc) /\ Q v (del H2 cl)) E0) : wpAny (model X.prog X.w) X.A (call (.ref f) us) (EP X pins σ Q) X.xe s := by
 have r2 : Vals (vs ++ dvs) (us ++ ds) := r.append hd
 have hl : (us ++ ds).length = ps.length := by rw [<- r2.length]; exact F.len _ _ _ _ h
 have hn : H cl = none := I.freeC x cl hcl
 have e0 := I.env0
 have ok1 := HOk.track I.hok hn hoc
 have hab : X.s_0.heap.objs.size <= cl := I.ok.cab x cl hfn hcl
 have nfr : ∀ b ∈ frs X.stack, b ≠ cl := fun b hb z => by
  subst z
  obtain ⟨v, o1, h1, h2⟩ := I.cell x b hcl
  rcases List.mem_cons.mp (I.stkSub b hb) with z | z
  ·exact I.cne x b hcl z
  ·obtain ⟨_, o', ho', _⟩ := I.ok.funs.mem z
   exact absurd (Nat.lt_of_lt_of_le (Heap.lt_size ho') hab) (Nat.lt_irrefl _)
 have e1 : Env0 X.prog X.w X.K X.mg X.base X.A X.stack s (upd H cl (Ex cl oc)) := ⟨e0.frames, e0.mod, fun b o' e' => ⟨(e0.bs b o' e').1, by
  rw [upd_ne (Nat.ne_of_lt (Nat.lt_of_lt_of_le (Heap.lt_size e') (Nat.le_trans I.ok.bsz hab)))]
  exact (e0.bs b o' e').2⟩, e0.bsz, e0.funs, fun b hb => by rw [upd_ne (nfr b hb)]; exact e0.frf b hb, ok1, e0.bare⟩
 refine wpAny_call (codeAny_mono (F.run X.A X.stack s _ ⟨us, []⟩ (us ++ ds) (vs ++ dvs) _ E0 hr e1 (hb s us I.kIn hl) r2 h) fun r s' hq => ?_)
 cases r with
 | error e => exact hq.elim
 | ok fl =>
  cases fl with
  | ret u =>
   obtain ⟨v, H', os, bare, un, hok, rv, q1, q2⟩ := hq
   have kp : ∀ b u', H b = some u' -> b ≠ cl := fun b u' z => ne_of_none z hn
   have up : ∀ {b} {u' : HO}, H b = some u' -> (upd H cl (Ex cl oc)) b = some u' := fun {b u'} z => by rw [upd_ne (kp _ _ z)]; exact z
   have get1 : s'.heap.get? cl = some oc := Ex.get hok q1
   refine I.after ⟨v, del H' cl, os, bare, ⟨fun b o' e' n hb hx => ?_, fun b o' e' n hb hx => ?_, fun b o' e' n hx => ?_, un.there, fun b xs z => ?_, fun b o' xs z => ?_, fun b ps' z => ?_⟩, HOk.del hok q1, rv, q2⟩
   ·by_cases hbc : b = cl
    ·subst hbc
     rw [hoc] at e'
     cases e'
     exact get1
    ·exact un.keep b o' e' (by rw [upd_ne hbc]; exact n) hb hx
   ·exact un.slot b o' e' (by rw [upd_ne (nfr b hb)]; exact n) hb hx
   ·by_cases hbc : b = cl
    ·rw [hbc]
     exact del_same
    ·rw [del_ne hbc]
     exact un.free b o' e' (by rw [upd_ne hbc]; exact n) hx
   ·rw [del_ne (kp _ _ z)]
    exact un.tups _ _ (up z)
   ·rw [del_ne (kp _ _ z)]
    exact un.frzs _ _ _ (up z)
   ·obtain ⟨more, h1⟩ := un.tbls _ _ (up z)
    exact ⟨more, by rw [del_ne (kp _ _ z)]; exact h1⟩
  | next => exact False.elim hq
  | brk => exact False.elim hq
  | cont => exact False.elim hq
def tMethX (C cl : Addr) (m : Str) (i : Nat) (sp : Sp) (dvs : List V) (ta : TE) (t : TA) : TE := fun σ H Q => ta σ H fun x H1 => ∃ a dx fs, x = .ref a /\ H1 a = some (.ins C dx fs) /\ fs.lookup m = none /\
 t σ H1 fun vs H2 => ∃ n : Int, σ[i]? = some (some (.int n)) /\ ∀ (o : Obj) (tk : Tok), H2 cl = none -> o.data = .cell (some (.int n tk)) -> sp (x :: (vs ++ dvs)) (upd H2 cl (Ex cl o)) (fun v H3 => H3 cl = some (Ex cl o) /\ Q v (del H3 cl)) E0
theorem pe_methX {i : Nat} {pl : Sem Bool} (hN : X.N[i]? = some x) (hck : X.env.scope.names.lookup x = some .cell) (hcl : X.env.cells.lookup x = some cl) (hfn : X.fn x = true) (he : PE X o ta) (c : Cls X.K C) (hm : Meth X.K C m f) (F : FnOk X.prog X.w X.K X.mg X.base CX0 k f fd ps sp) (hr : Room k X.A) (hb : Binds X.K fd ps ds) (hd : Vals dvs ds) (ha : L2.PA X (e :: es) t)
  (hst : starEach (e :: es) X.env = (false, eval e X.env) :: starEach es X.env := by rfl) (hpl : (backTo pos (starEach es X.env)).any (·.1) = false := by rfl)
  (ht : eval (.Call (.Attribute o m apos) (e :: es) [] pos) X.env = (do
   let ov <- eval o X.env
   standAt apos.atName
   let (f, first) <- holding [ov] (getMethod ov m pl)
   callWith pos f first (backTo pos (starEach (e :: es) X.env)) (backToKw pos (keywordEach [] X.env))) := by rfl) :
  PE X (.Call (.Attribute o m apos) (e :: es) [] pos) (tMethX C cl m i sp dvs ta t) := by
 intro pins s σ H Q I h
 refine PySem.W.methodCall_KW (pl := pl) (thn (he pins s σ H _ I h) fun u s1 ⟨x', H1, I1, rx, a, dx, fs, ex, ea, l, q⟩ => ?_) ht
 subst ex
 obtain rfl : u = Value.ref a := rx
 refine getmeth_ok I1 ea c hm l ?_
 refine PySem.W.callWith_K (first := [.ref a]) (h₀ := X.base) I.ok.mod.kin hm.kp (thn (ha pos pins s1 σ H1 _ I1 q) fun us s2 ⟨vs, H2, I2, r, n, hσ, q2⟩ => ⟨I2.kIn, ?_⟩) hst hpl
 obtain ⟨mm, _, hl⟩ := I2.loc
 obtain ⟨u, ru, lk⟩ := hl i x (.int n) hN hσ (.inr (.inl hck))
 obtain ⟨tk, rfl⟩ := ru
 rcases lk with ⟨z, _⟩ | ⟨_, c', hc', oc, ho1, ho2⟩
 ·have z2 : X.env.scope.names.lookup x = some .local := z
  rw [hck] at z2
  cases z2
 ·rw [hcl] at hc'
  cases hc'
  exact run_fnX (us := .ref a :: us) (vs := .ref a :: vs) F hr hb hd I2 (.cons rfl r) hcl hfn ho1 (q2 oc tk (I2.freeC x cl hcl) ho2)
end
theorem often_names : (lamScope lamOften).names = [(("part" : Str), .local), (("digit" : Str), .free)] := by rfl
theorem often_clos {env : Env} {cl : Addr} (h : env.cells.lookup ("digit" : Str) = some cl) : PySem.closureFor (lamScope lamOften) env = pure [(("digit" : Str), cl)] := by
 unfold PySem.closureFor
 rw [often_names]
 simp [PySem.cellOf, h]
theorem FutAt.forget {P : Program} {w : World} {CF CP : Addr} {H : Hp} {f q d e cl : Addr} {y : Nat} {U : List Row} {Ls : List Addr} {φ : Heap -> Prop} (h : FutAt P w CF CP H f q d e y U Ls) (hc : H cl = some (.ext φ)) (n : cl ≠ d) : FutAt P w CF CP (del H cl) f q d e y U Ls := by
 have k : ∀ b o, H b = some o -> (∀ ψ, o ≠ .ext ψ) -> (del H cl) b = some o := fun b o x z => by
  rw [del_ne (fun q => by rw [q, hc] at x; cases x; exact z _ rfl)]
  exact x
 obtain ⟨⟨dx, ob⟩, ⟨⟨dq, oq⟩, kvq, Y, h1, h2, h3, h4⟩, ⟨kvs, g1, g2, g3⟩, hls⟩ := h
 have kt : ∀ b ys, H b = some (.tup ys) -> (del H cl) b = some (.tup ys) := fun b ys x => k b _ x (by intro _ z; cases z)
 refine ⟨⟨dx, k _ _ ob (by intro _ z; cases z)⟩, ⟨⟨dq, k _ _ oq (by intro _ z; cases z)⟩, kvq, Y, h1.same (fun o x => by rw [del_ne n.symm]; exact x) kt, fun a v hv => ?_, h3, h4⟩, ⟨kvs, k _ _ g1 (by intro _ z; cases z), g2, fun a v hm => ?_⟩, fun L hL => let ⟨vs, z⟩ := hls L hL; ⟨vs, k _ _ z (by intro _ z; cases z)⟩⟩
 ·obtain ⟨D, kv, e1, e2, e3⟩ := h2 a v hv
  exact ⟨D, kv, e1, k _ _ e2 (by intro _ z; cases z), e3⟩
 ·obtain ⟨p', L, vs, e1, e2, e3, e4, e5, e6, e7⟩ := g3 a v hm
  exact ⟨p', L, vs, e1, e2, e3, e4, k _ _ e5 (by intro _ z; cases z), e6.same kt, e7⟩
def oftenQual : Str := ("Future.often_later" : Str) ++ ".<locals>." ++ "<lambda>"
def spOften (P : Program) (w : World) (K : PySem.W.Frag) (CF CP t : Addr) : Sp := fun vs H Q _ => ∃ (f q d e a : Addr) (l : Row) (n y k : Nat) (U : List Row) (Ls : List Addr), vs = [.ref f, .ref a, .int (n : Int), .int (k : Int)] /\ FutAt P w CF CP H f q d e y U Ls /\ SqL K H a (rV l) /\ Look15 l n U (y + addR l) /\
 y + addR l + 2 * addD l n <= YMax /\ TabV H t (lamPos lamOften) oftenQual /\
 ∀ (Ls' : List Addr) (H' : Hp), FutAt P w CF CP H' f q d e (y + addR l + 2 * addD l n) U Ls' -> Fr3 H H' d e t Ls Ls' -> TabV H' t (lamPos lamOften) oftenQual -> Q (.int ((Rc75.later n l).count k : Int)) H'
section
variable {P : Program} {w : World} {K : PySem.W.Frag} {mg : Str -> Option Value} {base : Heap}
theorem scOften : FnScope ["self", "row", "days", "digit"] ["self", "row", "days", "digit"] (defScope sOften) := ⟨rfl, rfl, rfl, by decide +kernel, rfl, by decide +kernel, by decide +kernel⟩
theorem TabV.tk {H H' : Hp} {t : Addr} {pos : Pos} {qual : Str} (x : TabV H t pos qual) (k : ∀ b o, H b = some o -> H' b = some o) : TabV H' t pos qual := x.keep (fun _ h => k _ _ h) fun b o h _ _ => k _ _ h
theorem ok_often {f C CP fM c t : Addr} {fd fdM : FuncData} (F : FunC K "often_later" "Future.often_later" sOften f fd c) (T : FTxt K mg C) (CH : PySem.W.CodeHd base c t) (B : BMain base mg) (MM : MDef K C "measured" "Future.measured" sMeas fM fdM ["self", "row", "days", "measure"])
  (GM : FnOk P w K mg base CX0 10 fM fdM ["self", "row", "days", "measure"] (spMeas P w K C CP)) : FnOk P w K mg base CX0 11 f fd ["self", "row", "days", "digit"] (spOften P w K C CP t) := by
 refine F.ok scOften (fun vs H Q E h => ?_) (fun A outer s H vs Q E hr h => ?_)
 ·obtain ⟨f', q, d, e, a, l, n, y, k, U, Ls, rfl, _⟩ := h
  rfl
 ·obtain ⟨f', q, d, e, a, l, n, y, k, U, Ls, rfl, hfut, hS, L15, hyM, htab, kQ⟩ := h
  refine ⟨_, pss_one (ps_ret (pe_methX (i := 3) (x := "digit") (cl := s.heap.objs.size + 1) rfl rfl rfl rfl (pv 0) T.cl MM.me GM hr MM.b .nil (pa_cons (pv 1) (pa_cons (pv 2) (pa_cons (pe_lam (c := c) (P := t) (l := mkLam lamOften [(("digit" : Str), s.heap.objs.size + 1)] ((mg "__name__").getD .none) oftenQual) rfl CH B rfl rfl rfl (often_clos rfl)) pa_nil))))), ?_⟩
  obtain ⟨dxf, hf⟩ := hfut.ob
  obtain ⟨ps, ht⟩ := htab.at
  refine ⟨_, rfl, f', dxf, _, rfl, hf, ff_no _ _ (by decide +kernel) (by decide +kernel), _, rfl, _, rfl, htab, fun g H1 hg lam1 tab1 k1 => ?_⟩
  have hfut1 := hfut.but k1 (.inr (.inr ⟨ps, ht⟩))
  refine ⟨k, rfl, fun o tk hcn hod => ?_⟩
  have sm : Same H1 (upd H1 (s.heap.objs.size + 1) (Ex (s.heap.objs.size + 1) o)) := same_new hcn
  refine ⟨f', q, d, e, a, g, l, n, y, .cnt k, U, Ls, rfl, hfut1.same sm, sm.seq (k1.seqB ht hS), L15, hyM, ⟨mkLam lamOften [(("digit" : Str), s.heap.objs.size + 1)] ((mg "__name__").getD .none) oftenQual, s.heap.objs.size + 1, o, tk, often_lam _ _ _, ?_, upd_same, hod⟩, fun Ls2 H2 hfut2 fr2 => ?_⟩
  ·exact lam1.keep fun b o x _ _ => sm _ _ x
  obtain ⟨ps1, ht1⟩ := tab1.at
  obtain ⟨_, kv1, he1⟩ := hfut1.here
  obtain ⟨_, kv, Y, dk, _⟩ := hfut1.part
  obtain ⟨xs, hd1, _⟩ := dk.ex
  have ntd : t ≠ d := ne_of ht1 hd1 (by intro z; cases z)
  have nte : t ≠ e := ne_of ht1 he1 (by intro z; cases z)
  have nce : s.heap.objs.size + 1 ≠ e := fun z => by rw [z, he1] at hcn; cases hcn
  have ncd : s.heap.objs.size + 1 ≠ d := fun z => by rw [z, hd1] at hcn; cases hcn
  have hc2 : H2 (s.heap.objs.size + 1) = some (Ex (s.heap.objs.size + 1) o) := fr2.keep _ _ upd_same ncd nce
  have kk : ∀ b o', H1 b = some o' -> b ≠ d -> b ≠ e -> (del H2 (s.heap.objs.size + 1)) b = some o' := fun b o' x h1 h2 => by
   rw [del_ne (ne_of_none x hcn)]
   exact fr2.keep _ _ (sm _ _ x) h1 h2
  refine ⟨hc2, kQ Ls2 _ ?_ ⟨fun b o x h1 h2 h3 => kk _ _ (k1 b o x h3) h1 h2, ⟨?_, ?_, ⟨_, kk _ _ ht1 ntd nte⟩⟩, fun L hL => (fr2.ls L hL).imp id fun z => ?_⟩ (tab1.keep (fun ps' x => kk _ _ x ntd nte) fun b o x h1 h2 => kk _ _ x (ex_ne x hd1 h1 h2) (ne_of x he1 (by intro z; cases z)))⟩
  ·exact hfut2.forget hc2 ncd
  ·obtain ⟨o', z⟩ := fr2.here.1
   exact ⟨o', by rw [del_ne ncd.symm]; exact z⟩
  ·obtain ⟨o', z⟩ := fr2.here.2
   exact ⟨o', by rw [del_ne nce.symm]; exact z⟩
  ·have z1 : H1 L = none := sm.free z
   exact k1.free z1 ⟨_, ht1⟩
end
end RA
end
section
namespace RA
open PySem L2
open Rc75 (Row)
def partIx (g : Row -> Nat) : List Row -> Nat -> Option (Row × Nat)
 | [], _ => none
 | p :: ps, i => if i < g p then some (p, i) else partIx g ps (i - g p)
theorem partIx_mem (g : Row -> Nat) : ∀ {ps : List Row} {i j : Nat} {p : Row}, partIx g ps i = some (p, j) -> p ∈ ps /\ j < g p
 | [], _, _, _, h => by cases h
 | q :: ps, i, j, p, h => by
  unfold partIx at h
  by_cases c : i < g q
  ·rw [if_pos c] at h
   cases h
   exact ⟨by simp, c⟩
  ·rw [if_neg c] at h
   obtain ⟨h1, h2⟩ := partIx_mem g h
   exact ⟨by simp [h1], h2⟩
theorem partIx_get (n : Nat) : ∀ (ps : List Row) (i : Nat), (ps.flatMap (Rc75.later n))[i]? = (partIx (fun p => (Rc75.later n p).length) ps i).bind fun x => (Rc75.later n x.1)[x.2]?
 | [], i => by simp [partIx]
 | p :: ps, i => by
  rw [List.flatMap_cons]
  unfold partIx
  by_cases c : i < (Rc75.later n p).length
  ·rw [if_pos c, List.getElem?_append_left c]
   rfl
  ·rw [if_neg c, List.getElem?_append_right (by omega)]
   exact partIx_get n ps _
theorem partIx_none (n : Nat) : ∀ (ps : List Row) (i : Nat), partIx (fun p => (Rc75.later n p).length) ps i = none -> (ps.flatMap (Rc75.later n))[i]? = none := fun ps i h => by rw [partIx_get, h]; rfl
def FoundV (H : Hp) (t : Addr) (p : Row) (j : Nat) : Prop := ∃ r, H t = some (.tup [.ref r, .int (j : Int)]) /\ H r = some (.tup (rV p))
def spPartAt (K : PySem.W.Frag) : Sp := fun vs H Q _ => ∃ (A M : Addr) (ps D : List Row) (ws : List V) (g : Row -> Nat) (i : Nat), vs = [.ref A, .ref M, .int (i : Int)] /\ H A = some (.lst ws) /\ TupsV H ps ws /\ H M = some (.dT (tab D (iV g))) /\ (∀ p ∈ ps, p ∈ D) /\
 (partIx g ps i = none -> Q .non H) /\ ∀ (p : Row) (j : Nat) (t : Addr) (H' : Hp), partIx g ps i = some (p, j) -> H t = none -> FoundV H' t p j -> Same H H' -> Q (.ref t) H'
section
variable {P : Program} {w : World} {K : PySem.W.Frag} {mg : Str -> Option Value} {base : Heap}
theorem scPartAt : FnScope ["parts", "lengths", "place", "left", "part"] ["parts", "lengths", "place"] (defScope sPartAt) := ⟨rfl, rfl, rfl, by decide +kernel, rfl, by decide +kernel, by decide +kernel⟩
theorem ok_partat {f : Addr} {fd : FuncData} (F : Fun K "part_at" "part_at" sPartAt f fd) : FnOk P w K mg base CX0 8 f fd ["parts", "lengths", "place"] (spPartAt K) := by
 refine F.ok scPartAt (fun vs H Q E h => ?_) (fun cdv A outer s H vs Q E hr h => ?_)
 ·obtain ⟨A', M, ps, D, ws, g, i, rfl, _⟩ := h
  rfl
 ·obtain ⟨A', M, ps, D, ws, g, i, rfl, hA, tv, hM, hD, kN, kS⟩ := h
  refine ⟨_, pss_cons (ps_set (i := 3) scPartAt.nd rfl (Or.inl rfl) (pv 2))
   (pss_cons (ps_for PassesOwn.never rfl (pi_list (pv 0)) (pg_name (i := 4) scPartAt.nd rfl (Or.inl rfl))
    (pss_cons (ps_if (pt_cmp (pc_lt (pv 3) (pe_dget (hu_of hr) (pv 1) (pv 4) (fun _ _ => rfl)))) (pss_one (ps_ret (pe_tup (pa_cons (pv 4) (pa_cons (pv 3) pa_nil))))) pss_nil)
     (pss_one (ps_aug (i := 3) scPartAt.nd rfl (Or.inl rfl) (pe_dget (hu_of hr) (pv 1) (pv 4) (fun _ _ => rfl)) ip_sub))))
   (pss_one (ps_ret pe_non))), ?_⟩
  refine ⟨_, rfl, _, rfl, A', rfl, ⟨_, SqL.of hA⟩, ?_⟩
  refine for_list (K := K) (a := A') (xs := ws) (fun k σ H2 => ∃ (v4 : Option V) (j : Nat), H2 = H /\ σ = [some (.ref A'), some (.ref M), some (.int (i : Int)), some (.int (j : Int)), v4] /\ partIx g (ps.drop k) j = partIx g ps i)
   ⟨none, i, rfl, rfl, rfl⟩ (fun k σ H2 _ ⟨_, _, e, _⟩ => by rw [e]; exact SqL.of hA) ?_ ?_
  ·rintro k x σ H2 hk ⟨v4, j, rfl, rfl, ej⟩
   obtain ⟨pr, r, hp1, rfl, hr0⟩ := tv.get hk
   obtain ⟨hkl, epr⟩ := List.getElem?_eq_some_iff.mp hp1
   have hmem : pr ∈ ps := List.mem_of_getElem? hp1
   have hr1 : H2 r = some (.tup ((kR pr).map kV)) := by rw [kR_V]; exact hr0
   have ev := val_tab (g := iV g) (hD pr hmem)
   have ed : ps.drop k = pr :: ps.drop (k + 1) := by rw [List.drop_eq_getElem_cons hkl, epr]
   rw [ed] at ej
   have ej : (if j < g pr then some (pr, j) else partIx g (ps.drop (k + 1)) (j - g pr)) = partIx g ps i := ej
   refine ⟨_, rfl, _, rfl, _, rfl, M, _, rfl, ev ▸ DGet.t hM hr1, (j : Int), (g pr : Int), rfl, rfl, ?_⟩
   by_cases c : j < g pr
   ·have c2 : (j : Int) < (g pr : Int) := by omega
    rw [if_pos c] at ej
    refine ⟨true, congrArg V.bl (decide_eq_true c2), ?_⟩
    refine iteT ⟨_, rfl, _, rfl, (by show 2 <= sizeLine; decide), fun t ht => ?_⟩
    exact kS pr j t _ ej.symm ht ⟨r, upd_same, by rw [upd_ne (ne_of_none hr0 ht)]; exact hr0⟩ (same_new ht)
   ·have c2 : ¬ (j : Int) < (g pr : Int) := by omega
    rw [if_neg c] at ej
    refine ⟨false, congrArg V.bl (decide_eq_false c2), ?_⟩
    refine iteF ?_
    refine ⟨_, rfl, _, rfl, _, rfl, M, _, rfl, ev ▸ DGet.t hM hr1, (j : Int), (g pr : Int), rfl, rfl, ?_⟩
    refine ⟨some (.ref r), j - g pr, rfl, ?_, ej⟩
    rw [show ((j - g pr : Nat) : Int) = (j : Int) - (g pr : Int) from by omega]
    rfl
  ·rintro σ H2 ⟨v4, j, rfl, rfl, ej⟩
   have ek : ps.drop ws.length = [] := List.drop_of_length_le (by rw [<- tv.len]; exact Nat.le_refl _)
   rw [ek] at ej
   exact kN ej.symm
end
end RA
end
section
namespace RA
open PySem L2
open Rc75 (Row)
theorem partsOf_ne (l : Row) : partsOf l ≠ [] := by
 unfold partsOf cutEnds
 cases Rc75.cutsOf l <;> simp
theorem dayParts_ne (l : Row) : ∀ k, dayParts k (partsOf l) ≠ []
 | 0 => partsOf_ne l
 | k + 1 => by
  rw [dayParts_succ]
  cases e : dayParts k (partsOf l) with
  | nil => exact absurd e (dayParts_ne l k)
  | cons p ps =>
   rw [List.flatMap_cons]
   cases e2 : partsOf (Rc75.aloud p) with
   | nil => exact absurd e2 (partsOf_ne _)
   | cons a b => simp
theorem FutAt.nTab {P : Program} {w : World} {CF CP : Addr} {H : Hp} {f q d e M : Addr} {y k : Nat} {U : List Row} {Ls : List Addr} {l : Row} {g : Row -> Nat} (h : FutAt P w CF CP H f q d e y U Ls) (hM : H M = some (.dT (tab (dayD k (partsOf l)) (iV g)))) : M ≠ e := by
 rintro rfl
 obtain ⟨kvs, h1, _, h3⟩ := h.di
 rw [hM] at h1
 cases h1
 cases ep : dayParts k (partsOf l) with
 | nil => exact dayParts_ne l k ep
 | cons p ps =>
  have hp : p ∈ dayD k (partsOf l) := (mem_dayD _ _ _).mpr (by rw [ep]; simp)
  obtain ⟨_, L, _, _, _, hv, _⟩ := h3 (kR p) (iV g p) (List.mem_map.mpr ⟨p, hp, rfl⟩)
  cases hv
def optV : Option Nat -> V
 | none => .non
 | some x => .int (x : Int)
def digitQual : Str := ("Future.digit_later" : Str) ++ ".<locals>." ++ "<lambda>"
def spDigitL (P : Program) (w : World) (K : PySem.W.Frag) (CF CP t : Addr) : Sp := fun vs H Q _ => ∃ (f q d e a : Addr) (l : Row) (n y i : Nat) (U : List Row) (Ls : List Addr), vs = [.ref f, .ref a, .int (n : Int), .int (i : Int)] /\ FutAt P w CF CP H f q d e y U Ls /\ SqL K H a (rV l) /\ Look15 l n U (y + addR l) /\
 y + addR l + 3 * addD l n <= YMax /\ TabV H t (lamPos lamDigit) digitQual /\
 ∀ (Ls' : List Addr) (H' : Hp), FutAt P w CF CP H' f q d e (y + addR l + 3 * addD l n) U Ls' -> Fr3 H H' d e t Ls Ls' -> TabV H' t (lamPos lamDigit) digitQual -> Q (optV (Rc75.later n l)[i]?) H'
theorem kid_place {p : Row} (hp : Plain p) (m j : Nat) (hj : j < (Rc75.later (m + 1) p).length) : ∃ c j2, partIx (fun x => (Rc75.later m x).length) (kids p) j = some (c, j2) /\ (Rc75.later m c)[j2]? = (Rc75.later (m + 1) p)[j]? := by
 have S := spl_parts hp.aloud
 have e : Rc75.later (m + 1) p = (kids p).flatMap (Rc75.later m) := S.rows m
 have g := partIx_get m (kids p) j
 rw [<- e] at g
 cases ep : partIx (fun x => (Rc75.later m x).length) (kids p) j with
 | none =>
  rw [ep] at g
  rw [List.getElem?_eq_getElem hj] at g
  cases g
 | some x => exact ⟨x.1, x.2, rfl, by rw [g, ep]; rfl⟩
section
variable {P : Program} {w : World} {K : PySem.W.Frag} {mg : Str -> Option Value} {base : Heap}
theorem scDigitL : FnScope ["self", "row", "days", "place", "parts", "lengths", "found", "day"] ["self", "row", "days", "place"] (defScope sDigitL) := ⟨rfl, rfl, rfl, by decide +kernel, rfl, by decide +kernel, by decide +kernel⟩
theorem ok_digitl {f C CP fP fD fL fA c t : Addr} {fd fdP fdD fdL fdA : FuncData} (F : FunC K "digit_later" "Future.digit_later" sDigitL f fd c) (T : FTxt K mg C) (TK : KTxt K mg CP) (TT : Txt K mg) (CH : PySem.W.CodeHd base c t) (B : BMain base mg)
  (MP : MDef K CP "parts" "Parting.parts" sParts fP fdP ["self", "row"]) (GP : FnOk P w K mg base CX0 10 fP fdP ["self", "row"] (spParts P w K CP))
  (MD : MDef K C "measured_by_day" "Future.measured_by_day" sMDay fD fdD ["self", "parts", "days", "measure"]) (GD : FnOk P w K mg base CX0 10 fD fdD ["self", "parts", "days", "measure"] (spMDay P w C CP))
  (ML : MDef K C "parts_later" "Future.parts_later" sPLater fL fdL ["self", "part"]) (GL : FnOk P w K mg base CX0 10 fL fdL ["self", "part"] (spPLater P w C CP))
  (DA : Def K mg "part_at" sPartAt fA fdA ["parts", "lengths", "place"]) (GA : FnOk P w K mg base CX0 10 fA fdA ["parts", "lengths", "place"] (spPartAt K)) :
  FnOk P w K mg base CX0 11 f fd ["self", "row", "days", "place"] (spDigitL P w K C CP t) := by
 refine F.ok scDigitL (fun vs H Q E h => ?_) (fun A outer s H vs Q E hr h => ?_)
 ·obtain ⟨f', q, d, e, a, l, n, y, i, U, Ls, rfl, _⟩ := h
  rfl
 ·obtain ⟨f', q, d, e, a, l, n, y, i, U, Ls, rfl, hfut, hS, L15, hyM, htab, kQ⟩ := h
  refine ⟨_, pss_cons (ps_set (i := 4) scDigitL.nd rfl (Or.inl rfl) (pe_meth (pe_fld (pv 0) rfl) TK.cl MP.me GP hr MP.b .nil pass0 (pa_cons (pv 1) pa_nil)))
   (pss_cons (ps_set (i := 5) scDigitL.nd rfl (Or.inl rfl) (pe_meth (pv 0) T.cl MD.me GD hr MD.b .nil pass0 (pa_cons (pv 4) (pa_cons (pv 2) (pa_cons (pe_lam (c := c) (P := t) (l := mkLam lamDigit [] ((mg "__name__").getD .none) digitQual) rfl CH B rfl rfl rfl rfl) pa_nil)))))
   (pss_cons (ps_set (i := 6) scDigitL.nd rfl (Or.inl rfl) (pe_call GA hr rfl DA.mg DA.F.kp DA.b .nil pass0 (pa_cons (pv 4) (pa_cons (pe_ix ix_list (pv 5) pe_int (fun _ _ => rfl)) (pa_cons (pv 3) pa_nil)))))
   (pss_cons (ps_if (pt_cmp (pc_isN (pv 6))) (pss_one (ps_ret pe_non)) pss_nil)
   (pss_cons (ps_for PassesOwn.never rfl (pi_range2 rfl TT.range (pa_cons pe_int (pa_cons (pe_op op_add (pv 2) pe_int) pa_nil))) (pg_name (i := 7) scDigitL.nd rfl (Or.inl rfl))
    (pss_one (ps_set (i := 6) scDigitL.nd rfl (Or.inl rfl) (pe_call GA hr rfl DA.mg DA.F.kp DA.b .nil pass0 (pa_cons (pe_meth (pv 0) T.cl ML.me GL hr ML.b .nil pass0 (pa_cons (pe_ix ix_tup (pv 6) pe_int (fun _ _ => rfl)) pa_nil)) (pa_cons (pe_ix ix_list (pv 5) (pv 7) (fun _ _ => rfl)) (pa_cons (pe_ix ix_tup (pv 6) pe_int (fun _ _ => rfl)) pa_nil)))))))
   (pss_one (ps_ret (pe_ix ix_tup (pe_ix ix_tup (pv 6) pe_int (fun _ _ => rfl)) (pe_ix ix_tup (pv 6) pe_int (fun _ _ => rfl)) (fun _ _ => rfl)))))))), ?_⟩
  obtain ⟨dxf, hf⟩ := hfut.ob
  obtain ⟨dq, hq⟩ := hfut.part.ob
  obtain ⟨ps, ht⟩ := htab.at
  have h0 : l.length <= 16777216 := L15.sz 0 (Nat.zero_le _)
  refine ⟨_, rfl, f', C, dxf, _, _, rfl, hf, T.cl, T.nP, ff_part _ _, q, dq, _, rfl, hq, kf_no _ (by decide +kernel), _, rfl, ?_⟩
  refine ⟨q, d, a, l, y, y + addR l, rfl, hfut.part, hS, L15.pl, h0, addR_ok l y, by omega, fun A' ws H1 hA hA1 tv part1 k1 => ?_⟩
  have hfut1 := hfut.parted k1 part1
  have fr1 := hfut1.fr k1
  obtain ⟨_, kv0, he0⟩ := hfut.here
  obtain ⟨_, kvp, Y, dk, _⟩ := hfut.part
  obtain ⟨xs0, hd0, _⟩ := dk.ex
  have ntd : t ≠ d := ne_of ht hd0 (by intro z; cases z)
  have nte : t ≠ e := ne_of ht he0 (by intro z; cases z)
  have tab1 : TabV H1 t (lamPos lamDigit) digitQual := htab.keep (fun ps' x => fr1.keep _ _ x ntd nte) fun b o x h1 h2 => fr1.keep _ _ x (ex_ne x hd0 h1 h2) (ne_of x he0 (by intro z; cases z))
  obtain ⟨dxf1, hf1⟩ := hfut1.ob
  obtain ⟨ps1, ht1⟩ := tab1.at
  refine ⟨_, rfl, f', dxf1, _, rfl, hf1, ff_no _ _ (by decide +kernel) (by decide +kernel), _, rfl, _, rfl, tab1, fun g H2 hg lam2 tab2 k2 => ?_⟩
  have hfut2 := hfut1.but k2 (.inr (.inr ⟨ps1, ht1⟩))
  obtain ⟨ps2, ht2⟩ := tab2.at
  have nA't : A' ≠ t := ne_of hA1 ht1 (by intro z; cases z)
  have tv2 : TupsV H2 (partsOf l) ws := tv.same fun b ys x => k2 _ _ x (ne_of x ht1 (by intro z; cases z))
  have hA2 := k2 _ _ hA1 nA't
  refine ⟨f', q, d, e, A', g, l, n, _, .len, U, Ls, ws, rfl, hfut2, hA2, tv2, L15, by omega, ⟨_, digit_lam _ _, lam2⟩, fun T0 vs Ls3 H3 hT hT3 dv hfut3 fr3 => ?_⟩
  obtain ⟨⟨φ2, hd2⟩, kv2, he2⟩ := hfut2.here
  obtain ⟨⟨φ3, hd3⟩, kv3, he3⟩ := hfut3.here
  have kt3 : ∀ b ys, H2 b = some (.tup ys) -> H3 b = some (.tup ys) := fun b ys x => fr3.keep _ _ x (ne_of x hd2 (by intro z; cases z)) (ne_of x he2 (by intro z; cases z))
  have tv3 : TupsV H3 (partsOf l) ws := tv2.same kt3
  have hA3 := fr3.keep _ _ hA2 (ne_of hA2 hd2 (by intro z; cases z)) (ne_of hA2 he2 (by intro z; cases z))
  obtain ⟨M0, hM01, hM02⟩ := dv.2 0 (Nat.zero_le _)
  have fin : ∀ (H' : Hp) (Ls' : List Addr), Fr2 H3 H' d e Ls3 Ls' -> FutAt P w C CP H' f' q d e (y + addR l + 3 * addD l n) U Ls' -> Q (optV (Rc75.later n l)[i]?) H' := fun H' Ls' fr hfut' => by
   have fr23 := fr3.trans fr
   obtain ⟨_, kvq, Y2, dk2, _⟩ := hfut2.part
   obtain ⟨xs2, hd2', _⟩ := dk2.ex
   refine kQ Ls' H' hfut' ⟨fun b o x h1 h2 h3 => fr23.keep _ _ (k2 _ _ (fr1.keep b o x h1 h2) h3) h1 h2, ⟨fr23.here.1, fr23.here.2, ⟨_, fr23.keep _ _ ht2 ntd nte⟩⟩, fun L hL => ?_⟩ (tab2.keep (fun ps' x => fr23.keep _ _ x ntd nte) fun b o x h1 h2 => fr23.keep _ _ x (ex_ne x hd2' h1 h2) (ne_of x he2 (by intro z; cases z)))
   exact (fr23.ls L hL).imp id fun z => fr1.free (k2.free z ⟨_, ht2⟩)
  refine ⟨_, rfl, _, rfl, T0, _, _, _, rfl, rfl, SqL.of hT3, at_of (j := 0) rfl hM01, _, rfl, ?_⟩
  refine ⟨A', M0, partsOf l, dayD 0 (partsOf l), ws, fun p => (Rc75.later n p).length, i, rfl, hA3, tv3, hM02, fun p hp => (mem_dayD 0 _ _).mpr hp, fun hN => ?_, fun p j tt H4 hpj htt fv s4 => ?_⟩
  ·refine ⟨_, rfl, _, rfl, iteT ?_⟩
   have e0 : (Rc75.later n l)[i]? = none := by rw [(spl_parts L15.pl).rows n]; exact partIx_none n _ _ hN
   have := fin H3 Ls3 ⟨fun b o x _ _ => x, ⟨⟨_, hd3⟩, ⟨_, he3⟩⟩, fun _ h => .inl h⟩ (hfut3.mono (by omega) fun _ h => h)
   rw [e0] at this
   exact this
  ·refine ⟨_, rfl, _, rfl, iteF ?_⟩
   have hpm := partIx_mem _ hpj
   have hget : (Rc75.later n p)[j]? = (Rc75.later n l)[i]? := by
    have g0 := partIx_get n (partsOf l) i
    rw [hpj, <- (spl_parts L15.pl).rows n] at g0
    exact g0.symm
   refine ⟨_, rfl, _, _, rfl, rfl, 1, _, rfl, ⟨by decide, by decide, by have := L15.n15; omega, by have := L15.n15; omega⟩, ?_⟩
   rw [show ((n : Int) + 1 - 1).toNat = n from by omega]
   refine for_range (lo := 1) (n := n) (fun k σ H5 => ∃ (v7 : Option V) (tt : Addr) (p : Row) (j : Nat) (Ls5 : List Addr), σ = [some (.ref f'), some (.ref a), some (.int (n : Int)), some (.int (i : Int)), some (.ref A'), some (.ref T0), some (.ref tt), v7] /\
     FoundV H5 tt p j /\ p ∈ dayD k (partsOf l) /\ j < (Rc75.later (n - k) p).length /\ (Rc75.later (n - k) p)[j]? = (Rc75.later n l)[i]? /\ FutAt P w C CP H5 f' q d e (y + addR l + 2 * addD l n + addD l k) U Ls5 /\ Fr2 H3 H5 d e Ls3 Ls5)
    ⟨none, tt, p, j, Ls3, rfl, fv, (mem_dayD 0 _ _).mpr hpm.1, hpm.2, hget, hfut3.same s4, ⟨fun b o x _ _ => s4 _ _ x, ⟨⟨_, s4 _ _ hd3⟩, ⟨_, s4 _ _ he3⟩⟩, fun _ h => .inl h⟩⟩ ?_ ?_
   ·rintro k σ H5 hk ⟨v7, tt, p, j, Ls5, rfl, ⟨r, hr1, hr2⟩, hpD, hj, hg5, hfut5, fr5⟩
    obtain ⟨m, hm⟩ : ∃ m, n - k = m + 1 := ⟨n - k - 1, by omega⟩
    rw [hm] at hj hg5
    have hpl := L15.rows (Nat.le_of_lt hk) p hpD
    have eadd : addD l (k + 1) = addD l k + addR (Rc75.later (k + 1) l) := rfl
    have one : addR (Rc75.aloud p) <= addR (Rc75.later (k + 1) l) := by
     have h1 := add_day L15.pl k
     obtain ⟨u, v, e1⟩ := List.append_of_mem hpD
     rw [e1, List.map_append, List.sum_append, List.map_cons, List.sum_cons] at h1
     omega
    have mono : addD l (k + 1) <= addD l n := Look15.addMono (by omega)
    obtain ⟨dxf5, hf5⟩ := hfut5.ob
    refine ⟨_, rfl, f', dxf5, _, rfl, hf5, ff_no _ _ (by decide +kernel) (by decide +kernel), _, rfl, tt, _, _, _, rfl, rfl, SqT.of hr1, at_of (j := 0) rfl rfl, ?_⟩
    refine ⟨f', q, d, e, r, p, _, _, U, Ls5, rfl, hfut5, hr2, hpl.1, L15.len (Nat.le_of_lt hk) hpD, L15.next hk hpD, addR_ok _ _, by omega, L15.fewU, hpl.2, fun L vsL Ls6 H6 hLm hL6 tvL hfut6 fr6 => ?_⟩
    obtain ⟨⟨φ5, hd5⟩, kv5, he5⟩ := hfut5.here
    have fr36 := fr5.trans fr6
    have hT6 := fr36.keep _ _ hT3 (ne_of hT3 hd3 (by intro z; cases z)) (ne_of hT3 he3 (by intro z; cases z))
    obtain ⟨Mk, hMk1, hMk2⟩ := dv.2 (k + 1) (by omega)
    have hMk6 := fr36.keep _ _ hMk2 (ne_of hMk2 hd3 (by intro z; cases z)) (hfut3.nTab hMk2)
    have hr6 := fr6.keep _ _ hr1 (ne_of hr1 hd5 (by intro z; cases z)) (ne_of hr1 he5 (by intro z; cases z))
    refine ⟨_, rfl, _, rfl, T0, _, _, _, rfl, rfl, SqL.of hT6, at_of (j := k + 1) (by omega) hMk1, _, rfl, tt, _, _, _, rfl, rfl, SqT.of hr6, at_of (j := 1) rfl rfl, ?_⟩
    obtain ⟨c2, j2, hk2, hget2⟩ := kid_place hpl.1 m j hj
    have em : n - (k + 1) = m := by omega
    have hkm := partIx_mem _ hk2
    have kidD : ∀ x, x ∈ kids p -> x ∈ dayD (k + 1) (partsOf l) := fun x hx => by
     show x ∈ insAll [] ((dayD k (partsOf l)).flatMap kids)
     rw [mem_insAll]
     exact .inr (List.mem_flatMap.mpr ⟨p, hpD, hx⟩)
    have ef : (fun p => Meas.len.f (Rc75.later (n - (k + 1)) p)) = fun p => (Rc75.later m p).length := by rw [em]; rfl
    rw [ef] at hMk6
    refine ⟨L, Mk, kids p, dayD (k + 1) (partsOf l), vsL, fun x => (Rc75.later m x).length, j, rfl, hL6, tvL, hMk6, kidD, fun hN => ?_, fun p' j' t' H7 hpj' ht' fv' s7 => ?_⟩
    ·rw [hk2] at hN
     cases hN
    ·rw [hk2] at hpj'
     cases hpj'
     obtain ⟨⟨φ6, hd6⟩, kv6, he6⟩ := hfut6.here
     refine ⟨some (.int (1 + (k : Int))), t', c2, j2, Ls6, rfl, fv', kidD _ hkm.1, by rw [em]; exact hkm.2, by rw [em, hget2]; exact hg5, (hfut6.same s7).mono (by omega) fun _ h => h, ⟨fun b o x h1 h2 => s7 _ _ (fr36.keep b o x h1 h2), ⟨⟨_, s7 _ _ hd6⟩, ⟨_, s7 _ _ he6⟩⟩, fr36.ls⟩⟩
   ·rintro σ H5 ⟨v7, tt, p, j, Ls5, rfl, ⟨r, hr1, hr2⟩, hpD, hj, hg5, hfut5, fr5⟩
    rw [Nat.sub_self] at hj hg5
    have hj : j < p.length := hj
    have hg5 : p[j]? = (Rc75.later n l)[i]? := hg5
    have e5 : p[j]? = some p[j] := List.getElem?_eq_getElem hj
    refine ⟨_, rfl, tt, _, _, _, rfl, rfl, SqT.of hr1, at_of (j := 0) rfl rfl, _, rfl, tt, _, _, _, rfl, rfl, SqT.of hr1, at_of (j := 1) rfl rfl, r, _, _, _, rfl, rfl, SqT.of hr2, atI_nat (rV_get e5), ?_⟩
    have := fin H5 Ls5 fr5 (hfut5.mono (by omega) fun _ h => h)
    rw [<- hg5, e5] at this
    exact this
end
end RA
end
section
namespace RA
open PySem L2
open Rc75 (Row)
open Rc75Neutral (step asked1 natsOf)
abbrev sDInit : Stmt := inClass (top 33) 0
abbrev sBegin : Stmt := inClass (top 33) 1
abbrev sPut : Stmt := inClass (top 33) 2
abbrev sRow : Stmt := inClass (top 33) 3
abbrev sDays : Stmt := inClass (top 33) 4
abbrev sBack : Stmt := inClass (top 33) 5
abbrev sBecome : Stmt := inClass (top 33) 6
abbrev sLong : Stmt := inClass (top 33) 7
abbrev sCount : Stmt := inClass (top 33) 8
abbrev sAt : Stmt := inClass (top 33) 9
abbrev sCuts : Stmt := inClass (top 33) 10
abbrev sMost : Stmt := top 35
abbrev sGo : Stmt := top 36
theorem nDP : ¬ (("digits" : Str) = "parting") := by decide +kernel
theorem nDF : ¬ (("digits" : Str) = "future") := by decide +kernel
theorem nPF : ¬ (("parting" : Str) = "future") := by decide +kernel
def df1 (a : Addr) : List (Str × V) := putF "digits" (.ref a) []
def df2 (a q : Addr) : List (Str × V) := putF "parting" (.ref q) (df1 a)
def df (a q f : Addr) : List (Str × V) := putF "future" (.ref f) (df2 a q)
theorem df1_get (a : Addr) : (df1 a).lookup ("digits" : Str) = some (.ref a) := by
 unfold df1
 rw [lookup_putF, if_pos rfl]
theorem df2_part (a q : Addr) : (df2 a q).lookup ("parting" : Str) = some (.ref q) := by
 unfold df2
 rw [lookup_putF, if_pos rfl]
theorem df_get (a q f : Addr) : (df a q f).lookup ("digits" : Str) = some (.ref a) := by
 unfold df df2
 rw [lookup_putF, if_neg nDF, lookup_putF, if_neg nDP]
 exact df1_get a
theorem df_part (a q f : Addr) : (df a q f).lookup ("parting" : Str) = some (.ref q) := by
 unfold df
 rw [lookup_putF, if_neg nPF]
 exact df2_part a q
theorem df_fut (a q f : Addr) : (df a q f).lookup ("future" : Str) = some (.ref f) := by
 unfold df
 rw [lookup_putF, if_pos rfl]
theorem df_no (a q f : Addr) {m : Str} (h1 : ¬ m = "digits") (h2 : ¬ m = "parting") (h3 : ¬ m = "future") : (df a q f).lookup m = none := by
 unfold df df2 df1
 rw [lookup_putF, if_neg h3, lookup_putF, if_neg h2, lookup_putF, if_neg h1]
 all_goals rfl
theorem df2_eq (a q : Addr) : df2 a q = ([("digits", V.ref a), ("parting", V.ref q)] : List (Str × V)) := by
 show (if ("digits" : Str) = "parting" then [(("digits" : Str), V.ref q)] else (("digits" : Str), V.ref a) :: putF "parting" (V.ref q) []) = ([("digits", V.ref a), ("parting", V.ref q)] : List (Str × V))
 rw [if_neg nDP]
 all_goals rfl
theorem df_eq (a q f : Addr) : df a q f = ([("digits", V.ref a), ("parting", V.ref q), ("future", V.ref f)] : List (Str × V)) := by
 unfold df
 rw [df2_eq]
 show (if ("digits" : Str) = "future" then _ else (("digits" : Str), V.ref a) :: (if ("parting" : Str) = "future" then _ else (("parting" : Str), V.ref q) :: putF "future" (V.ref f) [])) = ([("digits", V.ref a), ("parting", V.ref q), ("future", V.ref f)] : List (Str × V))
 rw [if_neg nDF, if_neg nPF]
 all_goals rfl
theorem df_put (a b q f : Addr) : putF "digits" (.ref b) (df a q f) = df b q f := by
 rw [df_eq, df_eq]
 show (if ("digits" : Str) = "digits" then (("digits" : Str), V.ref b) :: _ else _) = _
 rw [if_pos rfl]
theorem df_few (a q f : Addr) : (df a q f).length < 1000 := by
 rw [df_eq]
 show 3 < 1000
 decide
structure Wd where
 P : Program
 w : World
 CD : Addr
 CF : Addr
 CP : Addr
structure Ad where
 p : Addr
 q : Addr
 d : Addr
 f : Addr
 e : Addr
 t1 : Addr
 t2 : Addr
 t3 : Addr
def Ad.S (A : Ad) : List Addr := [A.p, A.d, A.e, A.t1, A.t2, A.t3]
structure DeskAt (W : Wd) (A : Ad) (H : Hp) (a : Addr) (y : Nat) (U : List Row) (Ls : List Addr) (l : Row) : Prop where
 ob : ∃ dx, H A.p = some (.ins W.CD dx (df a A.q A.f))
 row : H a = some (.lst (rV l))
 fut : FutAt W.P W.w W.CF W.CP H A.f A.q A.d A.e y U Ls
 tb1 : TabV H A.t1 (lamPos lamLen) lenQual
 tb2 : TabV H A.t2 (lamPos lamOften) oftenQual
 tb3 : TabV H A.t3 (lamPos lamDigit) digitQual
 nt : A.t1 ≠ A.t2 /\ A.t1 ≠ A.t3 /\ A.t2 ≠ A.t3
 ne : A.p ≠ A.q /\ A.p ≠ A.f
structure FrD (A : Ad) (H H' : Hp) (Ls Ls' : List Addr) : Prop where
 keep : ∀ b o, H b = some o -> b ∉ A.S -> H' b = some o
 here : ∀ b ∈ A.S, ∃ o, H' b = some o
 ls : ∀ L, L ∈ Ls' -> L ∈ Ls \/ H L = none
theorem FrD.free {A : Ad} {H H' : Hp} {Ls Ls' : List Addr} (x : FrD A H H' Ls Ls') {b : Addr} (hb : H' b = none) : H b = none := by
 cases q : H b with
 | none => rfl
 | some o =>
  by_cases e : b ∈ A.S
  ·obtain ⟨o', h⟩ := x.here b e
   rw [h] at hb; cases hb
  ·rw [x.keep b o q e] at hb; cases hb
theorem FrD.trans {A : Ad} {H H1 H2 : Hp} {L0 L1 L2 : List Addr} (a : FrD A H H1 L0 L1) (b : FrD A H1 H2 L1 L2) : FrD A H H2 L0 L2 :=
 ⟨fun c o h n => b.keep c o (a.keep c o h n) n, b.here, fun L h => (b.ls L h).elim (a.ls L) fun z => .inr (a.free z)⟩
theorem FrD.same {A : Ad} {H H1 H2 : Hp} {L0 L1 : List Addr} (a : FrD A H H1 L0 L1) (s : Same H1 H2) : FrD A H H2 L0 L1 :=
 ⟨fun c o h n => s _ _ (a.keep c o h n), fun b hb => let ⟨o, h⟩ := a.here b hb; ⟨o, s _ _ h⟩, a.ls⟩
theorem PartAt.offI {P : Program} {w : World} {C : Addr} {H H' : Hp} {q d z c dx : Addr} {g : List (Str × V)} {y : Nat} (h : PartAt P w C H q d y) (k : But H H' z) (hz : H z = some (.ins c dx g)) (n : z ≠ q) : PartAt P w C H' q d y := by
 obtain ⟨⟨dq, oq⟩, kvq, Y, h1, h2, h3, h4⟩ := h
 have ki : ∀ b o, H b = some o -> (∀ a b c, o ≠ .ins a b c) -> H' b = some o := fun b o x m => k b o x fun q => by rw [q, hz] at x; cases x; exact m _ _ _ rfl
 obtain ⟨φ, hφ⟩ := h1.here
 refine ⟨⟨dq, k _ _ oq n.symm⟩, kvq, Y, h1.same (fun o x => ki _ _ x (by rw [hφ] at x; cases x; intro _ _ _ z; cases z)) (fun b ys x => ki _ _ x (by intro _ _ _ z; cases z)), fun a v hv => ?_, h3, h4⟩
 obtain ⟨D, kv, e1, e2, e3⟩ := h2 a v hv
 exact ⟨D, kv, e1, ki _ _ e2 (by intro _ _ _ z; cases z), e3⟩
theorem FutAt.offI {P : Program} {w : World} {CF CP : Addr} {H H' : Hp} {f q d e z c dx : Addr} {g : List (Str × V)} {y : Nat} {U : List Row} {Ls : List Addr} (h : FutAt P w CF CP H f q d e y U Ls) (k : But H H' z) (hz : H z = some (.ins c dx g)) (n1 : z ≠ q) (n2 : z ≠ f) : FutAt P w CF CP H' f q d e y U Ls := by
 have ki : ∀ b o, H b = some o -> (∀ a b c, o ≠ .ins a b c) -> H' b = some o := fun b o x m => k b o x fun q => by rw [q, hz] at x; cases x; exact m _ _ _ rfl
 obtain ⟨⟨dx, ob⟩, part, ⟨kvs, g1, g2, g3⟩, hls⟩ := h
 refine ⟨⟨dx, k _ _ ob n2.symm⟩, part.offI k hz n1, ⟨kvs, ki _ _ g1 (by intro _ _ _ z; cases z), g2, fun a v hm => ?_⟩, fun L hL => let ⟨vs, z⟩ := hls L hL; ⟨vs, ki _ _ z (by intro _ _ _ z; cases z)⟩⟩
 obtain ⟨p', L, vs, e1, e2, e3, e4, e5, e6, e7⟩ := g3 a v hm
 exact ⟨p', L, vs, e1, e2, e3, e4, ki _ _ e5 (by intro _ _ _ z; cases z), e6.same fun b ys x => ki _ _ x (by intro _ _ _ z; cases z), e7⟩
theorem TabV.off {H H' : Hp} {t z : Addr} {pos : Pos} {qual : Str} (x : TabV H t pos qual) (k : But H H' z) (hz : (∃ xs, H z = some (.lst xs)) \/ ∃ c dx g, H z = some (.ins c dx g)) : TabV H' t pos qual := by
 have kk : ∀ b o, H b = some o -> (∀ xs, o ≠ .lst xs) -> (∀ a b c, o ≠ .ins a b c) -> H' b = some o := fun b o x n1 n2 => k b o x fun q => by
  rw [q] at x
  rcases hz with ⟨xs, h⟩ | ⟨c, dx, g, h⟩
  ·rw [h] at x; cases x; exact n1 _ rfl
  ·rw [h] at x; cases x; exact n2 _ _ _ rfl
 exact x.keep (fun ps h => kk _ _ h (by intro _ z; cases z) (by intro _ _ _ z; cases z)) fun b o h _ _ => kk _ _ h (by intro _ z; cases z) (by intro _ _ _ z; cases z)
section
variable {W : Wd} {A : Ad} {H H' : Hp} {a : Addr} {y : Nat} {U : List Row} {Ls : List Addr} {l : Row}
theorem DeskAt.mono {z : Nat} (h : DeskAt W A H a y U Ls l) (q : y <= z) : DeskAt W A H a z U Ls l := ⟨h.ob, h.row, h.fut.mono q fun _ x => x, h.tb1, h.tb2, h.tb3, h.nt, h.ne⟩
theorem DeskAt.grow {V' : List Row} (h : DeskAt W A H a y U Ls l) (q : ∀ p, p ∈ U -> p ∈ V') : DeskAt W A H a y V' Ls l := ⟨h.ob, h.row, h.fut.mono (Nat.le_refl _) q, h.tb1, h.tb2, h.tb3, h.nt, h.ne⟩
theorem DeskAt.same (h : DeskAt W A H a y U Ls l) (s : Same H H') : DeskAt W A H' a y U Ls l := ⟨let ⟨dx, z⟩ := h.ob; ⟨dx, s _ _ z⟩, s _ _ h.row, h.fut.same s, h.tb1.tk s, h.tb2.tk s, h.tb3.tk s, h.nt, h.ne⟩
theorem DeskAt.off {z : Addr} (h : DeskAt W A H a y U Ls l) (k : But H H' z) (hz : (∃ xs, H z = some (.lst xs) /\ z ∉ Ls /\ z ≠ a) \/ ∃ c dx g, H z = some (.ins c dx g) /\ z ≠ A.p /\ z ≠ A.q /\ z ≠ A.f) : DeskAt W A H' a y U Ls l := by
 obtain ⟨⟨dx, ob⟩, row, fut, tb1, tb2, tb3, nt, ne⟩ := h
 rcases hz with ⟨xs, h1, h2, h3⟩ | ⟨c, dx', g, h1, h2, h3, h4⟩
 ·exact ⟨⟨dx, k _ _ ob (ne_of ob h1 (by intro z; cases z))⟩, k _ _ row h3.symm, fut.but k (.inl ⟨xs, h1, h2⟩), tb1.off k (.inl ⟨_, h1⟩), tb2.off k (.inl ⟨_, h1⟩), tb3.off k (.inl ⟨_, h1⟩), nt, ne⟩
 ·exact ⟨⟨dx, k _ _ ob h2.symm⟩, k _ _ row (ne_of row h1 (by intro z; cases z)), fut.offI k h1 h3 h4, tb1.off k (.inr ⟨_, _, _, h1⟩), tb2.off k (.inr ⟨_, _, _, h1⟩), tb3.off k (.inr ⟨_, _, _, h1⟩), nt, ne⟩
theorem DeskAt.set {b dx : Addr} {t : Row} (h : DeskAt W A H a y U Ls l) (hb : H b = some (.lst (rV t))) : DeskAt W A (upd H A.p (.ins W.CD dx (df b A.q A.f))) b y U Ls t := by
 obtain ⟨⟨dx', ob⟩, row, fut, tb1, tb2, tb3, nt, ne⟩ := h
 have k : But H (upd H A.p (.ins W.CD dx (df b A.q A.f))) A.p := fun c o e hc => by rw [upd_ne hc]; exact e
 exact ⟨⟨dx, upd_same⟩, k _ _ hb (ne_of hb ob (by intro z; cases z)), fut.offI k ob ne.1 ne.2, tb1.off k (.inr ⟨_, _, _, ob⟩), tb2.off k (.inr ⟨_, _, _, ob⟩), tb3.off k (.inr ⟨_, _, _, ob⟩), nt, ne⟩
theorem DeskAt.hereS (h : DeskAt W A H a y U Ls l) : ∀ b ∈ A.S, ∃ o, H b = some o := by
 intro b hb
 obtain ⟨⟨dx', ob⟩, row, fut, tb1, tb2, tb3, nt, ne⟩ := h
 obtain ⟨⟨φ, hd⟩, kv, he⟩ := fut.here
 simp only [Ad.S, List.mem_cons, List.not_mem_nil, or_false] at hb
 rcases hb with rfl | rfl | rfl | rfl | rfl | rfl
 ·exact ⟨_, ob⟩
 ·exact ⟨_, hd⟩
 ·exact ⟨_, he⟩
 ·exact let ⟨ps, z⟩ := tb1.at; ⟨_, z⟩
 ·exact let ⟨ps, z⟩ := tb2.at; ⟨_, z⟩
 ·exact let ⟨ps, z⟩ := tb3.at; ⟨_, z⟩
theorem FrD.of (h : DeskAt W A H a y U Ls l) (s : Same H H') : FrD A H H' Ls Ls := ⟨fun b o e _ => s b o e, fun b hb => let ⟨o, z⟩ := h.hereS b hb; ⟨o, s _ _ z⟩, fun _ z => .inl z⟩
theorem FrD.set {o : HO} (x : FrD A H H' Ls Ls) : FrD A H (upd H' A.p o) Ls Ls := by
 refine ⟨fun b o e hb => ?_, fun b hb => ?_, x.ls⟩
 ·rw [upd_ne (fun z => hb (by rw [z]; simp [Ad.S]))]
  exact x.keep b o e hb
 ·by_cases e : b = A.p
  ·rw [e, upd_same]
   exact ⟨_, rfl⟩
  ·rw [upd_ne e]
   exact x.here b hb
theorem DeskAt.notS (h : DeskAt W A H a y U Ls l) {b : Addr} {o : HO} (hb : H b = some o) (h1 : ∀ a b c, o ≠ .ins a b c) (h2 : ∀ φ, o ≠ .ext φ) (h3 : ∀ kv, o ≠ .dT kv) (h4 : ∀ ps, o ≠ .tbl ps) : b ∉ A.S := by
 obtain ⟨⟨dx', ob⟩, row, fut, tb1, tb2, tb3, nt, ne⟩ := h
 obtain ⟨⟨φ, hd⟩, kv, he⟩ := fut.here
 intro z
 simp only [Ad.S, List.mem_cons, List.not_mem_nil, or_false] at z
 rcases z with rfl | rfl | rfl | rfl | rfl | rfl
 ·rw [ob] at hb; cases hb; exact h1 _ _ _ rfl
 ·rw [hd] at hb; cases hb; exact h2 _ rfl
 ·rw [he] at hb; cases hb; exact h3 _ rfl
 ·obtain ⟨ps, q⟩ := tb1.at; rw [q] at hb; cases hb; exact h4 _ rfl
 ·obtain ⟨ps, q⟩ := tb2.at; rw [q] at hb; cases hb; exact h4 _ rfl
 ·obtain ⟨ps, q⟩ := tb3.at; rw [q] at hb; cases hb; exact h4 _ rfl
end
def YC : Nat := 425984
structure Fit (l : Row) (U : List Row) (y : Nat) : Prop where
 look : ∀ n, n <= 15 -> Look15 l n U (y + addR l)
 cost : ∀ n, n <= 15 -> addR l + 3 * addD l n <= YC
 room : y + YC <= YMax
def After (W : Wd) (A : Ad) (H : Hp) (a : Addr) (y : Nat) (U : List Row) (Ls : List Addr) (l : Row) (ans : List Int) (Q : VK) : Prop :=
 ∀ (r b : Addr) (Ls' : List Addr) (H' : Hp), H r = none -> (b = a \/ H b = none) -> H' r = some (.lst (ans.map V.int)) -> DeskAt W A H' b (y + YC) U Ls' l -> FrD A H H' Ls Ls' -> Q (.ref r) H'
theorem After.fin {W : Wd} {A : Ad} {H H2 : Hp} {a b r : Addr} {y y2 : Nat} {U : List Row} {Ls Ls2 : List Addr} {l : Row} {ans : List Int} {Q : VK} (k : After W A H a y U Ls l ans Q) (d : DeskAt W A H2 b y2 U Ls2 l) (fr : FrD A H H2 Ls Ls2) (hb : b = a \/ H b = none) (hy : y2 <= y + YC) (hr : H2 r = none) :
  Q (.ref r) (upd H2 r (.lst (ans.map V.int))) := k r b Ls2 _ (fr.free hr) hb upd_same ((d.same (same_new hr)).mono hy) (fr.same (same_new hr))
theorem After.stay {W : Wd} {A : Ad} {H H1 : Hp} {a r : Addr} {y : Nat} {U : List Row} {Ls : List Addr} {l : Row} {ans : List Int} {Q : VK} (k : After W A H a y U Ls l ans Q) (d : DeskAt W A H a y U Ls l) (s : Same H H1) (hr : H1 r = none) : Q (.ref r) (upd H1 r (.lst (ans.map V.int))) :=
 k.fin (d.same s) (FrD.of d s) (.inl rfl) (Nat.le_add_right _ _) hr
structure DTxt (K : PySem.W.Frag) (mg : Str -> Option Value) (C : Addr) : Prop where
 cl : Cls K C
 nD : NoAttr K C "digits"
 nP : NoAttr K C "parting"
 nF : NoAttr K C "future"
 mgC : mg "Desk" = some (.ref C)
 days : GI mg "MOST_DAYS" 120
 told : GI mg "TOLD_BELOW" 18446744073709551616
def spDInit (W : Wd) (t1 t2 t3 : Addr) : Sp := fun vs H Q _ => ∃ (p dx : Addr), vs = [.ref p] /\ H p = some (.ins W.CD dx []) /\ TabV H t1 (lamPos lamLen) lenQual /\ TabV H t2 (lamPos lamOften) oftenQual /\ TabV H t3 (lamPos lamDigit) digitQual /\ (t1 ≠ t2 /\ t1 ≠ t3 /\ t2 ≠ t3) /\
 ∀ (q d f e a : Addr) (H' : Hp), H q = none -> H d = none -> H f = none -> H e = none -> H a = none -> DeskAt W ⟨p, q, d, f, e, t1, t2, t3⟩ H' a 0 [] [] [] -> But H H' p -> Q .non H'
def spBegin (W : Wd) : Sp := fun vs H Q _ => ∃ (A : Ad) (a : Addr) (y : Nat) (U : List Row) (Ls : List Addr) (l : Row), vs = [.ref A.p] /\ DeskAt W A H a y U Ls l /\ After W A H a y U Ls [] [0] Q
def spBecome (W : Wd) : Sp := fun vs H Q _ => ∃ (A : Ad) (a : Addr) (y : Nat) (U : List Row) (Ls : List Addr) (l : Row) (v : V), vs = [.ref A.p, v] /\ DeskAt W A H a y U Ls l /\
 ((v = .non /\ After W A H a y U Ls l [-2] Q) \/ ∃ (b : Addr) (t : Row), v = .ref b /\ H b = some (.lst (rV t)) /\ ∀ (r : Addr) (H' : Hp), H r = none -> H' r = some (.lst [V.int (t.length : Int)]) -> DeskAt W A H' b y U Ls t -> FrD A H H' Ls Ls -> Q (.ref r) H')
def spMost : Sp := fun vs H Q _ => ∃ x : Int, vs = [.int x] /\ Q (.int (Rc75.roomOf x : Int)) H
def spGo : Sp := fun vs H Q _ => ∃ x : Int, vs = [.int x] /\ Q (.bl (Rc75.isDays x)) H
def spPut (W : Wd) (K : PySem.W.Frag) : Sp := fun vs H Q _ => ∃ (A : Ad) (a c : Addr) (y : Nat) (U : List Row) (Ls : List Addr) (l : Row) (ns : List Int), vs = [.ref A.p, .ref c] /\ DeskAt W A H a y U Ls l /\ SqL K H c (ns.map V.int) /\ asked1 [[1, (ns.length : Int)], ns] = true /\
 After W A H a y U Ls (step ⟨l⟩ [[1, (ns.length : Int)], ns]).1.row (step ⟨l⟩ [[1, (ns.length : Int)], ns]).2 Q
def spRow (W : Wd) : Sp := fun vs H Q _ => ∃ (A : Ad) (a : Addr) (y : Nat) (U : List Row) (Ls : List Addr) (l : Row) (x : Int), vs = [.ref A.p, .int x] /\ DeskAt W A H a y U Ls l /\ l.length <= 65536 /\ After W A H a y U Ls (step ⟨l⟩ [[2, x]]).1.row (step ⟨l⟩ [[2, x]]).2 Q
def spDays (W : Wd) : Sp := fun vs H Q _ => ∃ (A : Ad) (a : Addr) (y : Nat) (U : List Row) (Ls : List Addr) (l : Row) (x : Int), vs = [.ref A.p, .int x] /\ DeskAt W A H a y U Ls l /\ l.length <= 65536 /\ After W A H a y U Ls (step ⟨l⟩ [[3, x]]).1.row (step ⟨l⟩ [[3, x]]).2 Q
def spBack (W : Wd) : Sp := fun vs H Q _ => ∃ (A : Ad) (a : Addr) (y : Nat) (U : List Row) (Ls : List Addr) (l : Row), vs = [.ref A.p] /\ DeskAt W A H a y U Ls l /\ Good l /\ After W A H a y U Ls (step ⟨l⟩ [[4]]).1.row (step ⟨l⟩ [[4]]).2 Q
section
variable {W : Wd} {K : PySem.W.Frag} {mg : Str -> Option Value} {base : Heap}
theorem scDInit : FnScope ["self"] ["self"] (defScope sDInit) := ⟨rfl, rfl, rfl, by decide +kernel, rfl, by decide +kernel, by decide +kernel⟩
theorem ok_dinit {f fP fF t1 t2 t3 : Addr} {fd fdP fdF : FuncData} (F : Fun K "__init__" "Desk.__init__" sDInit f fd) (T : DTxt K mg W.CD) (TK : KTxt K mg W.CP) (TF : FTxt K mg W.CF) (MkP : Mk K W.CP fP) (MkF : Mk K W.CF fF) (bP : Binds K fdP ["self"] []) (bF : Binds K fdF ["self", "parting"] [])
  (GP : FnOk W.P W.w K mg base CX0 1 fP fdP ["self"] (spPInit W.P W.w W.CP)) (GF : FnOk W.P W.w K mg base CX0 1 fF fdF ["self", "parting"] (spFInit W.P W.w W.CF W.CP)) : FnOk W.P W.w K mg base CX0 3 f fd ["self"] (spDInit W t1 t2 t3) := by
 refine F.ok scDInit (fun vs H Q E h => ?_) (fun cdv A outer s H vs Q E hr h => ?_)
 ·obtain ⟨p, dx, rfl, _⟩ := h
  rfl
 ·obtain ⟨p, dx, rfl, hp, tb1, tb2, tb3, nt, k⟩ := h
  refine ⟨_, pss_cons (ps_fld (pv 0) (pe_lst pa_nil) rfl) (pss_cons (ps_fld (pv 0) (pe_make0 MkP GP hr rfl TK.mgC bP .nil pass0) rfl) (pss_one (ps_fld (pv 0) (pe_make MkF GF hr rfl TF.mgC bF .nil pass0 (pa_cons (pe_fld (pv 0) rfl) pa_nil)) rfl))), ?_⟩
  refine ⟨(by show 0 <= sizeLine; decide), fun a ha => ?_⟩
  have npa : p ≠ a := ne_of_none hp ha
  refine ⟨_, rfl, p, W.CD, dx, [], rfl, (by rw [upd_ne npa]; exact hp), T.cl, T.nD, (by show 0 < 1000; decide), ?_⟩
  have k1 : But H (upd (upd H a (.lst [])) p (.ins W.CD dx (df1 a))) p := fun b o e hb => by
   rw [upd_ne hb, upd_ne (ne_of_none e ha)]
   exact e
  have ha1 : (upd (upd H a (.lst [])) p (.ins W.CD dx (df1 a))) a = some (.lst []) := by rw [upd_ne npa.symm, upd_same]
  have hp1 : (upd (upd H a (.lst [])) p (.ins W.CD dx (df1 a))) p = some (.ins W.CD dx (df1 a)) := upd_same
  show ∀ x dx', _
  intro q dq hq hdq hne
  have nqp : p ≠ q := ne_of_none hp1 hq
  have sq : Same (upd (upd H a (.lst [])) p (.ins W.CD dx (df1 a))) (upd (upd (upd (upd H a (.lst [])) p (.ins W.CD dx (df1 a))) dq (.own q)) q (.ins W.CP dq [])) := fun b o e => by
   rw [upd_ne (ne_of_none e hq), upd_ne (ne_of_none e hdq)]
   exact e
  refine ⟨q, dq, rfl, upd_same, fun d H2 hd part2 k2 => ⟨rfl, ?_⟩⟩
  have hp2 := k2 _ _ (sq _ _ hp1) nqp
  have ha2 := k2 _ _ (sq _ _ ha1) (ne_of_none ha1 hq)
  refine ⟨_, rfl, p, W.CD, dx, _, rfl, hp2, T.cl, T.nP, (by show 1 < 1000; decide), ?_⟩
  have k3 : But H2 (upd H2 p (.ins W.CD dx (df2 a q))) p := fun b o e hb => by rw [upd_ne hb]; exact e
  have part3 := part2.offI k3 hp2 nqp
  have hp3 : (upd H2 p (.ins W.CD dx (df2 a q))) p = some (.ins W.CD dx (df2 a q)) := upd_same
  have ha3 := k3 _ _ ha2 npa.symm
  refine ⟨_, rfl, p, W.CD, dx, _, _, rfl, hp3, T.cl, T.nP, df2_part _ _, ?_⟩
  intro f' dxf hf' hdxf hne2
  have nfp : p ≠ f' := ne_of_none hp3 hf'
  have sf : Same (upd H2 p (.ins W.CD dx (df2 a q))) (upd (upd (upd H2 p (.ins W.CD dx (df2 a q))) dxf (.own f')) f' (.ins W.CF dxf [])) := fun b o e => by
   rw [upd_ne (ne_of_none e hf'), upd_ne (ne_of_none e hdxf)]
   exact e
  refine ⟨f', q, d, dxf, 0, rfl, upd_same, part3.same sf, fun e H4 he fut4 k4 => ⟨rfl, ?_⟩⟩
  have hp4 := k4 _ _ (sf _ _ hp3) nfp
  have ha4 := k4 _ _ (sf _ _ ha3) (ne_of_none ha3 hf')
  refine ⟨_, rfl, p, W.CD, dx, _, rfl, hp4, T.cl, T.nF, (by rw [df2_eq]; show 2 < 1000; decide), ?_⟩
  have k5 : But H4 (upd H4 p (.ins W.CD dx (df a q f'))) p := fun b o e hb => by rw [upd_ne hb]; exact e
  have kk : But H (upd H4 p (.ins W.CD dx (df a q f'))) p := fun b o x hb => by
   have x1 := k1 b o x hb
   have x2 := k2 _ _ (sq _ _ x1) (ne_of_none x1 hq)
   have x3 := k3 _ _ x2 hb
   have x4 := k4 _ _ (sf _ _ x3) (ne_of_none x3 hf')
   exact k5 _ _ x4 hb
  have fr : ∀ b, (upd (upd H a (.lst [])) p (.ins W.CD dx (df1 a))) b = none -> H b = none := fun b z => by
   cases q : H b with
   | none => rfl
   | some o =>
    by_cases hb : b = p
    ·rw [hb, hp1] at z; cases z
    ·rw [k1 b o q hb] at z; cases z
  have fr2 : ∀ b, (upd H2 p (.ins W.CD dx (df2 a q))) b = none -> H b = none := fun b z => by
   cases q : H b with
   | none => rfl
   | some o =>
    by_cases hb : b = p
    ·rw [hb, hp3] at z; cases z
    ·have x1 := k1 b o q hb
     rw [k3 _ _ (k2 _ _ (sq _ _ x1) (ne_of_none x1 hq)) hb] at z
     cases z
  refine k q d f' e a _ (fr q hq) ?_ (fr2 f' hf') (fr2 e (sf.free he)) ha ⟨⟨dx, upd_same⟩, ?_, fut4.offI k5 hp4 nqp nfp, tb1.off kk (.inr ⟨_, _, _, hp⟩), tb2.off kk (.inr ⟨_, _, _, hp⟩), tb3.off kk (.inr ⟨_, _, _, hp⟩), nt, ⟨nqp, nfp⟩⟩ kk
  ·exact fr d (sq.free hd)
  ·exact k5 _ _ ha4 npa.symm
theorem scBegin : FnScope ["self"] ["self"] (defScope sBegin) := ⟨rfl, rfl, rfl, by decide +kernel, rfl, by decide +kernel, by decide +kernel⟩
theorem ok_begin {f : Addr} {fd : FuncData} (F : Fun K "begin" "Desk.begin" sBegin f fd) (T : DTxt K mg W.CD) : FnOk W.P W.w K mg base CX0 1 f fd ["self"] (spBegin W) := by
 refine F.ok scBegin (fun vs H Q E h => ?_) (fun cdv A outer s H vs Q E hr h => ?_)
 ·obtain ⟨A', a, y, U, Ls, l, rfl, _⟩ := h
  rfl
 ·obtain ⟨A', a, y, U, Ls, l, rfl, d, k⟩ := h
  refine ⟨_, pss_cons (ps_fld (pv 0) (pe_lst pa_nil) rfl) (pss_one (ps_ret (pe_lst (pa_cons pe_int pa_nil)))), ?_⟩
  refine ⟨(by show 0 <= sizeLine; decide), fun b hb => ?_⟩
  have s1 : Same H (upd H b (.lst [])) := same_new hb
  have d1 := d.same s1
  obtain ⟨dx, hp⟩ := id d1.ob
  refine ⟨_, rfl, A'.p, W.CD, dx, _, rfl, hp, T.cl, T.nD, df_few _ _ _, ?_⟩
  rw [df_put]
  have d2 := d1.set (dx := dx) (b := b) (t := []) upd_same
  exact ⟨(by show 1 <= sizeLine; decide), fun r hr' => k.fin (ans := [0]) d2 (FrD.of d s1).set (.inr hb) (Nat.le_add_right _ _) hr'⟩
theorem scBecome : FnScope ["self", "digits"] ["self", "digits"] (defScope sBecome) := ⟨rfl, rfl, rfl, by decide +kernel, rfl, by decide +kernel, by decide +kernel⟩
theorem ok_become {f : Addr} {fd : FuncData} (F : Fun K "become" "Desk.become" sBecome f fd) (T : DTxt K mg W.CD) (TT : Txt K mg) : FnOk W.P W.w K mg base CX0 1 f fd ["self", "digits"] (spBecome W) := by
 refine F.ok scBecome (fun vs H Q E h => ?_) (fun cdv A outer s H vs Q E hr h => ?_)
 ·obtain ⟨A', a, y, U, Ls, l, v, rfl, _⟩ := h
  rfl
 ·obtain ⟨A', a, y, U, Ls, l, v, rfl, d, k⟩ := h
  refine ⟨_, pss_cons (ps_if (pt_cmp (pc_isN (pv 1))) (pss_one (ps_ret (pe_lst (pa_cons (pe_un un_neg pe_int) pa_nil)))) pss_nil)
   (pss_cons (ps_fld (pv 0) (pv 1) rfl) (pss_one (ps_ret (pe_lst (pa_cons (pe_callB call_len_seq (by rfl) TT.len PySem.boot_len (pa_cons (pv 1) pa_nil)) pa_nil))))), ?_⟩
  rcases k with ⟨rfl, k⟩ | ⟨b, t, rfl, hb, k⟩
  ·refine ⟨_, rfl, _, rfl, ?_⟩
   refine iteT ⟨_, rfl, (by show 1 <= sizeLine; decide), fun r hr' => ?_⟩
   exact k.stay (ans := [-2]) d (Same.refl H) hr'
  ·refine ⟨_, rfl, _, rfl, ?_⟩
   refine iteF ?_
   obtain ⟨dx, hp⟩ := id d.ob
   refine ⟨_, rfl, _, rfl, A'.p, W.CD, dx, _, rfl, hp, T.cl, T.nD, df_few _ _ _, ?_⟩
   rw [df_put]
   have d2 := d.set (dx := dx) hb
   refine ⟨_, rfl, b, _, rfl, .inl (SqL.of d2.row), (by show 1 <= sizeLine; decide), fun r hr' => ?_⟩
   rw [rV_length]
   have fr := (FrD.of d (Same.refl H)).set (o := .ins W.CD dx (df b A'.q A'.f))
   exact k r _ (fr.free hr') upd_same (d2.same (same_new hr')) (fr.same (same_new hr'))
theorem scMost : FnScope ["most"] ["most"] (defScope sMost) := ⟨rfl, rfl, rfl, by decide +kernel, rfl, by decide +kernel, by decide +kernel⟩
theorem ok_most {P : Program} {w : World} {f : Addr} {fd : FuncData} (D : Def K mg "counted_most" sMost f fd ["most"]) (T : Txt K mg) : FnOk P w K mg base CX0 1 f fd ["most"] spMost := by
 refine D.F.ok scMost (fun vs H Q E h => ?_) (fun cdv A outer s H vs Q E hr h => ?_)
 ·obtain ⟨x, rfl, _⟩ := h
  rfl
 ·obtain ⟨x, rfl, k⟩ := h
  refine ⟨_, pss_cons (ps_if (PW.pt (pw_or (pt_cmpR op_lt (pv 0) pe_int (nomark _)) (pw_or1 (pt_cmpR op_gt (pv 0) (pe_gi T.longest) (nomark _))))) (pss_one (ps_ret pe_int)) pss_nil) (pss_one (ps_ret (pv 0))), ?_⟩
  have no : ¬ (1 <= x /\ x <= 65536) -> Q (.int 0) H := fun h => by
   have e : Rc75.roomOf x = 0 := if_neg h
   rw [e] at k
   exact k
  refine ⟨_, rfl, _, _, rfl, rfl, _, rfl, ?_⟩
  refine ite2 (fun h => ?_) (fun h => ?_)
  ·have h' := of_decide_eq_true h
   exact iteT (no (by omega))
  have h1 : ¬ (x < 1) := fun z => h (decide_eq_true z)
  refine ⟨_, rfl, _, _, rfl, rfl, _, rfl, ?_⟩
  refine ite2 (fun h => ?_) (fun h => ?_)
  ·have h' := of_decide_eq_true h
   exact no (by omega)
  ·have h2 : ¬ ((65536 : Int) < x) := fun z => h (decide_eq_true z)
   have e : Rc75.roomOf x = x.toNat := if_pos (show 1 <= x /\ x <= 65536 by omega)
   rw [e, show ((x.toNat : Nat) : Int) = x from by omega] at k
   exact ⟨_, rfl, k⟩
theorem scGo : FnScope ["d"] ["d"] (defScope sGo) := ⟨rfl, rfl, rfl, by decide +kernel, rfl, by decide +kernel, by decide +kernel⟩
theorem ok_go {P : Program} {w : World} {f C : Addr} {fd : FuncData} (D : Def K mg "may_go_by" sGo f fd ["d"]) (T : DTxt K mg C) : FnOk P w K mg base CX0 1 f fd ["d"] spGo := by
 refine D.F.ok scGo (fun vs H Q E h => ?_) (fun cdv A outer s H vs Q E hr h => ?_)
 ·obtain ⟨x, rfl, _⟩ := h
  rfl
 ·obtain ⟨x, rfl, k⟩ := h
  refine ⟨_, pss_one (ps_ret (pe_and (pe_cmpR op_le pe_int (pv 0) (nomark _)) (pe_one (pe_cmpR op_le (pv 0) (pe_gi T.days) (nomark _))))), ?_⟩
  rw [isDays_eq] at k
  refine ⟨_, rfl, _, _, rfl, rfl, decide ((0 : Int) <= x), rfl, ?_⟩
  by_cases h : (0 : Int) <= x
  ·rw [if_pos (decide_eq_true h)]
   refine ⟨_, rfl, _, _, rfl, rfl, ?_⟩
   have e : decide (x <= 120) = decide (0 <= x /\ x <= 120) := by
    by_cases h2 : x <= 120
    ·rw [decide_eq_true h2, decide_eq_true ⟨h, h2⟩]
    ·rw [decide_eq_false h2, decide_eq_false fun z => h2 z.2]
   show Q (.bl (decide (x <= 120))) H
   rw [e]
   exact k
  ·rw [if_neg (by rw [decide_eq_false h]; decide)]
   rw [decide_eq_false fun z => h z.1] at k
   exact k
end
end RA
end
section
namespace RA
open PySem L2
open Rc75 (Row)
open Rc75Neutral (step asked1 natsOf)
section
variable {W : Wd} {K : PySem.W.Frag} {mg : Str -> Option Value} {base : Heap}
theorem scPut : FnScope ["self", "digits"] ["self", "digits"] (defScope sPut) := ⟨rfl, rfl, rfl, by decide +kernel, rfl, by decide +kernel, by decide +kernel⟩
theorem ok_put {f fM : Addr} {fd fdM : FuncData} (F : Fun K "put" "Desk.put" sPut f fd) (T : DTxt K mg W.CD) (TT : Txt K mg) (DM : Def K mg "may_be_set" sMay fM fdM ["digits"]) (GM : FnOk W.P W.w K mg base CX0 2 fM fdM ["digits"] (spMay K)) : FnOk W.P W.w K mg base CX0 3 f fd ["self", "digits"] (spPut W K) := by
 refine F.ok scPut (fun vs H Q E h => ?_) (fun cdv A outer s H vs Q E hr h => ?_)
 ·obtain ⟨A', a, c, y, U, Ls, l, ns, rfl, _⟩ := h
  rfl
 ·obtain ⟨A', a, c, y, U, Ls, l, ns, rfl, d, hc, hask, k⟩ := h
  refine ⟨_, pss_cons (ps_if (pt_not (pt_val (pe_call GM hr rfl DM.mg DM.F.kp DM.b .nil pass0 (pa_cons (pv 1) pa_nil)))) (pss_one (ps_ret (pe_lst (pa_cons (pe_un un_neg pe_int) pa_nil)))) pss_nil)
   (pss_cons (ps_fld (pv 0) (pe_callTy call_list_of (by rfl) TT.list PyProof.Rows.boot_list (pa_cons (pv 1) pa_nil)) rfl) (pss_one (ps_ret (pe_lst (pa_cons pe_int pa_nil))))), ?_⟩
  have h40 := whole_set_len hask
  have hby := (asked_set hask).1
  refine ⟨_, rfl, c, ns, rfl, hc, h40, hby, fun H1 s1 => ⟨_, rfl, ?_⟩⟩
  rw [step_set] at k
  cases e : (decide (1 <= ns.length) && Rc75.plain (natsOf ns)) with
  | false =>
   have hc0 : (ns.length : Int) < 1 \/ 256 < (ns.length : Int) \/ Rc75.plain (natsOf ns) = false := by
    rw [Bool.and_eq_false_iff] at e
    rcases e with e | e
    ·exact .inl (by have := of_decide_eq_false e; omega)
    ·exact .inr (.inr e)
   rw [if_pos hc0] at k
   refine iteT ⟨_, rfl, (by show 1 <= sizeLine; decide), fun r hr' => ?_⟩
   exact After.stay k d s1 hr'
  | true =>
   rw [Bool.and_eq_true] at e
   have hc0 : ¬ ((ns.length : Int) < 1 \/ 256 < (ns.length : Int) \/ Rc75.plain (natsOf ns) = false) := by
    rintro (z | z | z)
    ·have := of_decide_eq_true e.1; omega
    ·omega
    ·rw [e.2] at z; cases z
   rw [if_neg hc0] at k
   refine iteF ?_
   have d1 := d.same s1
   refine ⟨_, rfl, c, _, rfl, .inl (s1.seq hc), fun b hb => ?_⟩
   have s2 := s1.trans (same_new (o := .lst (ns.map V.int)) hb)
   have d2 := d.same s2
   obtain ⟨dx, hp⟩ := id d2.ob
   refine ⟨_, rfl, A'.p, W.CD, dx, _, rfl, hp, T.cl, T.nD, df_few _ _ _, ?_⟩
   rw [df_put]
   have d3 := d2.set (dx := dx) (b := b) (t := natsOf ns) (by rw [upd_same, nats_back fun z hz => (hby z hz).1])
   exact ⟨(by show 1 <= sizeLine; decide), fun r hr' => After.fin k d3 (FrD.of d s2).set (.inr (s1.free hb)) (Nat.le_add_right _ _) hr'⟩
theorem scRow : FnScope ["self", "most"] ["self", "most"] (defScope sRow) := ⟨rfl, rfl, rfl, by decide +kernel, rfl, by decide +kernel, by decide +kernel⟩
theorem ok_row {f fM : Addr} {fd fdM : FuncData} (F : Fun K "row" "Desk.row" sRow f fd) (T : DTxt K mg W.CD) (TT : Txt K mg) (DM : Def K mg "counted_most" sMost fM fdM ["most"]) : FnOk W.P W.w K mg base CX0 2 f fd ["self", "most"] (spRow W) := by
 have GM : FnOk W.P W.w K mg base CX0 1 fM fdM ["most"] spMost := ok_most DM TT
 refine F.ok scRow (fun vs H Q E h => ?_) (fun cdv A outer s H vs Q E hr h => ?_)
 ·obtain ⟨A', a, y, U, Ls, l, x, rfl, _⟩ := h
  rfl
 ·obtain ⟨A', a, y, U, Ls, l, x, rfl, d, hl, k⟩ := h
  refine ⟨_, pss_cons (ps_if (pt_cmpR op_gt (pe_callB call_len_seq (by rfl) TT.len PySem.boot_len (pa_cons (pe_fld (pv 0) rfl) pa_nil)) (pe_call GM hr rfl DM.mg DM.F.kp DM.b .nil pass0 (pa_cons (pv 1) pa_nil)) (nomark _))
    (pss_one (ps_ret (pe_lst (pa_cons (pe_un un_neg pe_int) pa_nil)))) pss_nil)
   (pss_one (ps_ret (pe_op op_cat (pe_lst (pa_cons (pe_callB call_len_seq (by rfl) TT.len PySem.boot_len (pa_cons (pe_fld (pv 0) rfl) pa_nil)) pa_nil)) (pe_fld (pv 0) rfl)))), ?_⟩
  obtain ⟨dx, hp⟩ := id d.ob
  have ha := d.row
  rw [step_row] at k
  refine ⟨_, rfl, A'.p, W.CD, dx, _, _, rfl, hp, T.cl, T.nD, df_get _ _ _, a, _, rfl, .inl (SqL.of ha), _, rfl, x, rfl, _, _, rfl, rfl, _, rfl, ?_⟩
  rw [rV_length]
  refine ite2 (fun h => ?_) (fun h => ?_)
  ·have h' := of_decide_eq_true h
   rw [if_pos (show Rc75.roomOf x < l.length by omega)] at k
   refine ⟨_, rfl, (by show 1 <= sizeLine; decide), fun r hr' => ?_⟩
   exact After.stay k d (Same.refl H) hr'
  ·have h' : ¬ ((Rc75.roomOf x : Int) < (l.length : Int)) := fun z => h (decide_eq_true z)
   rw [if_neg (show ¬ Rc75.roomOf x < l.length by omega)] at k
   refine ⟨_, rfl, A'.p, W.CD, dx, _, _, rfl, hp, T.cl, T.nD, df_get _ _ _, a, _, rfl, .inl (SqL.of ha), (by show 1 <= sizeLine; decide), fun t ht => ?_⟩
   have s1 : Same H (upd H t (.lst [V.int ((rV l).length : Int)])) := same_new ht
   refine ⟨_, rfl, A'.p, W.CD, dx, _, _, rfl, s1 _ _ hp, T.cl, T.nD, df_get _ _ _, t, a, _, _, rfl, rfl, upd_same, s1 _ _ ha, line_le (by rw [rV_length]; show 1 + _ <= _; omega), fun r hr' => ?_⟩
   have := After.stay k d s1 hr'
   rw [rV_length] at this ⊢
   rw [rV_ints]
   exact this
theorem go_yes {x : Int} (h : Rc75.isDays x = true) : 0 <= x /\ x <= 120 := by
 rw [isDays_eq] at h
 exact of_decide_eq_true h
theorem scDays : FnScope ["self", "d"] ["self", "d"] (defScope sDays) := ⟨rfl, rfl, rfl, by decide +kernel, rfl, by decide +kernel, by decide +kernel⟩
theorem ok_days {f fB fL fG : Addr} {fd fdB fdL fdG : FuncData} (F : Fun K "days" "Desk.days" sDays f fd) (T : DTxt K mg W.CD) (TT : Txt K mg) (MB : MDef K W.CD "become" "Desk.become" sBecome fB fdB ["self", "digits"]) (DL : Def K mg "later" sLater fL fdL ["row", "days"])
  (GL : FnOk W.P W.w K mg base CX0 3 fL fdL ["row", "days"] (spLater K)) (DG : Def K mg "may_go_by" sGo fG fdG ["d"]) : FnOk W.P W.w K mg base CX0 4 f fd ["self", "d"] (spDays W) := by
 have GB : FnOk W.P W.w K mg base CX0 3 fB fdB ["self", "digits"] (spBecome W) := (ok_become MB.F T TT).mono (by decide)
 have GG : FnOk W.P W.w K mg base CX0 3 fG fdG ["d"] spGo := (ok_go DG T).mono (by decide)
 refine F.ok scDays (fun vs H Q E h => ?_) (fun cdv A outer s H vs Q E hr h => ?_)
 ·obtain ⟨A', a, y, U, Ls, l, x, rfl, _⟩ := h
  rfl
 ·obtain ⟨A', a, y, U, Ls, l, x, rfl, d, hl, k⟩ := h
  refine ⟨_, pss_cons (ps_if (pt_not (pt_val (pe_call GG hr rfl DG.mg DG.F.kp DG.b .nil pass0 (pa_cons (pv 1) pa_nil)))) (pss_one (ps_ret (pe_lst (pa_cons (pe_un un_neg pe_int) pa_nil)))) pss_nil)
   (pss_one (ps_ret (pe_meth (pv 0) T.cl MB.me GB hr MB.b .nil pass0 (pa_cons (pe_call GL hr rfl DL.mg DL.F.kp DL.b .nil pass0 (pa_cons (pe_fld (pv 0) rfl) (pa_cons (pv 1) pa_nil))) pa_nil)))), ?_⟩
  obtain ⟨dx, hp⟩ := id d.ob
  have ha := d.row
  rw [step_days] at k
  refine ⟨_, rfl, x, rfl, _, rfl, ?_⟩
  cases eg : Rc75.isDays x with
  | false =>
   rw [if_pos eg] at k
   refine iteT ⟨_, rfl, (by show 1 <= sizeLine; decide), fun r hr' => ?_⟩
   exact After.stay k d (Same.refl H) hr'
  | true =>
   rw [if_neg (by rw [eg]; decide)] at k
   have hx := go_yes eg
   obtain ⟨n, rfl⟩ : ∃ n : Nat, x = (n : Int) := ⟨x.toNat, by omega⟩
   rw [show ((n : Int)).toNat = n from by omega] at k
   refine iteF ⟨_, rfl, A'.p, dx, _, rfl, hp, df_no _ _ _ (by decide +kernel) (by decide +kernel) (by decide +kernel), ?_⟩
   refine ⟨_, rfl, A'.p, W.CD, dx, _, _, rfl, hp, T.cl, T.nD, df_get _ _ _, _, rfl, a, l, n, rfl, SqL.of ha, hl, by omega, fun sh S H' hS h3 s3 => ?_, fun sh H' s3 => ?_⟩
   ·have e2 : ((List.range (n + 1)).all fun (k : Nat) => decide ((Rc75.later k l).length <= 65536)) = true := List.all_eq_true.mpr fun j hj => decide_eq_true (sh j (by simp at hj; omega))
    rw [if_neg (by rw [e2]; decide)] at k
    refine ⟨A', a, y, U, Ls, l, _, rfl, d.same s3, .inr ⟨S, _, rfl, h3, fun r H2 hr2 h2 d2 k2 => ?_⟩⟩
    exact k r S Ls H2 (s3.free hr2) (.inr hS) h2 (d2.mono (Nat.le_add_right _ _)) ((FrD.of d s3).trans k2)
   ·have e2 : ((List.range (n + 1)).all fun (k : Nat) => decide ((Rc75.later k l).length <= 65536)) = false := by
     cases e3 : ((List.range (n + 1)).all fun (k : Nat) => decide ((Rc75.later k l).length <= 65536)) with
     | false => rfl
     | true =>
      refine absurd (fun j hj => ?_) sh
      exact of_decide_eq_true (List.all_eq_true.mp e3 j (by simp; omega))
    rw [if_pos e2] at k
    refine ⟨A', a, y, U, Ls, l, _, rfl, d.same s3, .inl ⟨rfl, fun r b Ls2 H2 hr2 hb2 h2 d2 k2 => ?_⟩⟩
    exact k r b Ls2 H2 (s3.free hr2) (hb2.imp id s3.free) h2 d2 ((FrD.of d s3).trans k2)
theorem scBack : FnScope ["self"] ["self"] (defScope sBack) := ⟨rfl, rfl, rfl, by decide +kernel, rfl, by decide +kernel, by decide +kernel⟩
theorem ok_back {f fB fL : Addr} {fd fdB fdL : FuncData} (F : Fun K "back" "Desk.back" sBack f fd) (T : DTxt K mg W.CD) (TT : Txt K mg) (MB : MDef K W.CD "become" "Desk.become" sBecome fB fdB ["self", "digits"]) (DL : Def K mg "day_before" sBefore fL fdL ["row"]) :
  FnOk W.P W.w K mg base CX0 2 f fd ["self"] (spBack W) := by
 have GL : FnOk W.P W.w K mg base CX0 1 fL fdL ["row"] (spBefore K) := ok_before DL TT
 have GB : FnOk W.P W.w K mg base CX0 1 fB fdB ["self", "digits"] (spBecome W) := ok_become MB.F T TT
 refine F.ok scBack (fun vs H Q E h => ?_) (fun cdv A outer s H vs Q E hr h => ?_)
 ·obtain ⟨A', a, y, U, Ls, l, rfl, _⟩ := h
  rfl
 ·obtain ⟨A', a, y, U, Ls, l, rfl, d, hg, k⟩ := h
  refine ⟨_, pss_one (ps_ret (pe_meth (pv 0) T.cl MB.me GB hr MB.b .nil pass0 (pa_cons (pe_call GL hr rfl DL.mg DL.F.kp DL.b .nil pass0 (pa_cons (pe_fld (pv 0) rfl) pa_nil)) pa_nil))), ?_⟩
  obtain ⟨dx, hp⟩ := id d.ob
  have ha := d.row
  rw [step_back] at k
  refine ⟨_, rfl, A'.p, dx, _, rfl, hp, df_no _ _ _ (by decide +kernel) (by decide +kernel) (by decide +kernel), ?_⟩
  refine ⟨_, rfl, A'.p, W.CD, dx, _, _, rfl, hp, T.cl, T.nD, df_get _ _ _, a, l, rfl, SqL.of ha, hg.le, hg.pl.1, fun t ht htl S H' hS h3 s3 => ?_, fun hno H' s3 => ?_⟩
  ·rw [show Rc75.said (Rc75.Abs.row ⟨l⟩) = some t from ht] at k
   dsimp only at k
   rw [if_pos htl] at k
   refine ⟨A', a, y, U, Ls, l, _, rfl, d.same s3, .inr ⟨S, _, rfl, h3, fun r H2 hr2 h2 d2 k2 => ?_⟩⟩
   exact k r S Ls H2 (s3.free hr2) (.inr hS) h2 (d2.mono (Nat.le_add_right _ _)) ((FrD.of d s3).trans k2)
  ·have k' : After W A' H a y U Ls l [-2] Q := by
    cases e : Rc75.said l with
    | none =>
     rw [show Rc75.said (Rc75.Abs.row ⟨l⟩) = none from e] at k
     exact k
    | some t =>
     rw [show Rc75.said (Rc75.Abs.row ⟨l⟩) = some t from e] at k
     dsimp only at k
     rw [if_neg (by have := hno t e; omega)] at k
     exact k
   refine ⟨A', a, y, U, Ls, l, _, rfl, d.same s3, .inl ⟨rfl, fun r b Ls2 H2 hr2 hb2 h2 d2 k2 => ?_⟩⟩
   exact k' r b Ls2 H2 (s3.free hr2) (hb2.imp id s3.free) h2 d2 ((FrD.of d s3).trans k2)
end
end RA
end
section
namespace RA
open PySem L2
open Rc75 (Row)
open Rc75Neutral (step asked1 natsOf)
section
variable {W : Wd} {A : Ad} {H H' : Hp} {a t : Addr} {y : Nat} {U : List Row} {Ls Ls' : List Addr} {l : Row}
theorem DeskAt.tab3 (h : DeskAt W A H a y U Ls l) (fr : Fr3 H H' A.d A.e t Ls Ls') (ht : ∃ ps, H t = some (.tbl ps)) {t' : Addr} {pos : Pos} {qual : Str} (x : TabV H t' pos qual) (n : t' ≠ t) : TabV H' t' pos qual := by
 obtain ⟨_, kv, he⟩ := h.fut.here
 obtain ⟨_, kvp, Y, dk, _⟩ := h.fut.part
 obtain ⟨xs0, hd, _⟩ := dk.ex
 obtain ⟨ps, hps⟩ := ht
 exact x.keep (fun ps' z => fr.keep _ _ z (ne_of z hd (by intro z; cases z)) (ne_of z he (by intro z; cases z)) n) fun b o z h1 h2 => fr.keep _ _ z (ex_ne z hd h1 h2) (ne_of z he (by intro z; cases z)) (ne_of z hps (by intro z; cases z))
theorem DeskAt.frD (h : DeskAt W A H a y U Ls l) (fr : Fr3 H H' A.d A.e t Ls Ls') (hS : t ∈ A.S) : FrD A H H' Ls Ls' := by
 have hd : A.d ∈ A.S := by simp [Ad.S]
 have he : A.e ∈ A.S := by simp [Ad.S]
 refine ⟨fun b o x hb => fr.keep b o x (fun z => hb (z ▸ hd)) (fun z => hb (z ▸ he)) (fun z => hb (z ▸ hS)), fun b hb => ?_, fr.ls⟩
 by_cases h1 : b = A.d
 ·rw [h1]; exact fr.here.1
 ·by_cases h2 : b = A.e
  ·rw [h2]; exact fr.here.2.1
  ·by_cases h3 : b = t
   ·rw [h3]; exact fr.here.2.2
   ·obtain ⟨o, z⟩ := h.hereS b hb
    exact ⟨o, fr.keep b o z h1 h2 h3⟩
theorem DeskAt.obs (h : DeskAt W A H a y U Ls l) (fr : Fr3 H H' A.d A.e t Ls Ls') (ht : ∃ ps, H t = some (.tbl ps)) : (∃ dx, H' A.p = some (.ins W.CD dx (df a A.q A.f))) /\ H' a = some (.lst (rV l)) := by
 obtain ⟨⟨φ, hd⟩, kv, he⟩ := h.fut.here
 obtain ⟨ps, hps⟩ := ht
 obtain ⟨dx, ob⟩ := h.ob
 have row := h.row
 exact ⟨⟨dx, fr.keep _ _ ob (ne_of ob hd (by intro z; cases z)) (ne_of ob he (by intro z; cases z)) (ne_of ob hps (by intro z; cases z))⟩, fr.keep _ _ row (ne_of row hd (by intro z; cases z)) (ne_of row he (by intro z; cases z)) (ne_of row hps (by intro z; cases z))⟩
theorem DeskAt.parted {y' : Nat} (h : DeskAt W A H a y U Ls l) (k : But H H' A.d) (p : PartAt W.P W.w W.CP H' A.q A.d y') : DeskAt W A H' a y' U Ls l /\ FrD A H H' Ls Ls := by
 obtain ⟨_, kvp, Y, dk, _⟩ := h.fut.part
 obtain ⟨xs0, hd, _⟩ := dk.ex
 have S := h.hereS
 obtain ⟨⟨dx, ob⟩, row, fut, tb1, tb2, tb3, nt, ne⟩ := h
 have tk : ∀ {t' : Addr} {pos : Pos} {qual : Str}, TabV H t' pos qual -> TabV H' t' pos qual := fun x => x.keep (fun ps z => k _ _ z (ne_of z hd (by intro z; cases z))) fun b o z h1 h2 => k _ _ z (ex_ne z hd h1 h2)
 refine ⟨⟨⟨dx, k _ _ ob (ne_of ob hd (by intro z; cases z))⟩, k _ _ row (ne_of row hd (by intro z; cases z)), fut.parted k p, tk tb1, tk tb2, tk tb3, nt, ne⟩, ⟨fun b o x hb => k b o x fun z => hb (by rw [z]; simp [Ad.S]), fun b hb => ?_, fun _ z => .inl z⟩⟩
 by_cases h1 : b = A.d
 ·rw [h1]
  exact let ⟨φ, z⟩ := p.ext; ⟨_, z⟩
 ·exact let ⟨o, z⟩ := S b hb; ⟨o, k _ _ z h1⟩
end
def Near (x : Int) : Prop := x <= 15 \/ 120 < x
def spLong (W : Wd) (t : Addr) : Sp := fun vs H Q _ => ∃ (A : Ad) (a : Addr) (y : Nat) (U : List Row) (Ls : List Addr) (l : Row) (x : Int), vs = [.ref A.p, .int x] /\ A.t1 = t /\ DeskAt W A H a y U Ls l /\ Fit l U y /\ Near x /\ After W A H a y U Ls (step ⟨l⟩ [[5, x]]).1.row (step ⟨l⟩ [[5, x]]).2 Q
def spCount (W : Wd) (t : Addr) : Sp := fun vs H Q _ => ∃ (A : Ad) (a : Addr) (y : Nat) (U : List Row) (Ls : List Addr) (l : Row) (x z : Int), vs = [.ref A.p, .int x, .int z] /\ A.t2 = t /\ DeskAt W A H a y U Ls l /\ Fit l U y /\ Near x /\ After W A H a y U Ls (step ⟨l⟩ [[6, x, z]]).1.row (step ⟨l⟩ [[6, x, z]]).2 Q
def spAt (W : Wd) (t : Addr) : Sp := fun vs H Q _ => ∃ (A : Ad) (a : Addr) (y : Nat) (U : List Row) (Ls : List Addr) (l : Row) (x z : Int), vs = [.ref A.p, .int x, .int z] /\ A.t3 = t /\ DeskAt W A H a y U Ls l /\ Fit l U y /\ Near x /\ 0 <= z /\ After W A H a y U Ls (step ⟨l⟩ [[7, x, z]]).1.row (step ⟨l⟩ [[7, x, z]]).2 Q
def spCuts (W : Wd) : Sp := fun vs H Q _ => ∃ (A : Ad) (a : Addr) (y : Nat) (U : List Row) (Ls : List Addr) (l : Row) (x : Int), vs = [.ref A.p, .int x] /\ DeskAt W A H a y U Ls l /\ Fit l U y /\ After W A H a y U Ls (step ⟨l⟩ [[8, x]]).1.row (step ⟨l⟩ [[8, x]]).2 Q
theorem mod_nat (n : Nat) : (n : Int) % 18446744073709551616 = ((n % 2 ^ 64 : Nat) : Int) := by
 have : (2 : Nat) ^ 64 = 18446744073709551616 := by decide
 rw [this]
 omega
theorem count_filter (l : Row) (a : Nat) : l.count a = (l.filter fun (x : Nat) => x == a).length := by rw [List.count_eq_length_filter]
section
variable {W : Wd} {K : PySem.W.Frag} {mg : Str -> Option Value} {base : Heap} {t1 t2 t3 : Addr}
theorem scLong : FnScope ["self", "d"] ["self", "d"] (defScope sLong) := ⟨rfl, rfl, rfl, by decide +kernel, rfl, by decide +kernel, by decide +kernel⟩
theorem ok_long {f fL fG : Addr} {fd fdL fdG : FuncData} (F : Fun K "how_long" "Desk.how_long" sLong f fd) (T : DTxt K mg W.CD) (TF : FTxt K mg W.CF) (DG : Def K mg "may_go_by" sGo fG fdG ["d"]) (mL : Meth K W.CF "length_later" fL) (bL : Binds K fdL ["self", "row", "days"] [])
  (GL : FnOk W.P W.w K mg base CX0 11 fL fdL ["self", "row", "days"] (spLenL W.P W.w K W.CF W.CP t1)) : FnOk W.P W.w K mg base CX0 12 f fd ["self", "d"] (spLong W t1) := by
 have GG : FnOk W.P W.w K mg base CX0 11 fG fdG ["d"] spGo := (ok_go DG T).mono (by decide)
 refine F.ok scLong (fun vs H Q E h => ?_) (fun cdv A outer s H vs Q E hr h => ?_)
 ·obtain ⟨A', a, y, U, Ls, l, x, rfl, _⟩ := h
  rfl
 ·obtain ⟨A', a, y, U, Ls, l, x, rfl, rfl, d, fit, near, k⟩ := h
  refine ⟨_, pss_cons (ps_if (pt_not (pt_val (pe_call GG hr rfl DG.mg DG.F.kp DG.b .nil pass0 (pa_cons (pv 1) pa_nil)))) (pss_one (ps_ret (pe_lst (pa_cons (pe_un un_neg pe_int) pa_nil)))) pss_nil)
   (pss_one (ps_ret (pe_lst (pa_cons pe_int (pa_cons (pe_op op_mod (pe_meth (pe_fld (pv 0) rfl) TF.cl mL GL hr bL .nil pass0 (pa_cons (pe_fld (pv 0) rfl) (pa_cons (pv 1) pa_nil))) (pe_gi T.told)) pa_nil))))), ?_⟩
  obtain ⟨dx, hp⟩ := id d.ob
  obtain ⟨dxf, hf⟩ := d.fut.ob
  rw [step_long] at k
  refine ⟨_, rfl, x, rfl, _, rfl, ?_⟩
  cases eg : Rc75.isDays x with
  | false =>
   rw [if_pos eg] at k
   refine iteT ⟨_, rfl, (by show 1 <= sizeLine; decide), fun r hr' => ?_⟩
   exact After.stay k d (Same.refl H) hr'
  | true =>
   rw [if_neg (by rw [eg]; decide)] at k
   have hx := go_yes eg
   obtain ⟨n, rfl⟩ : ∃ n : Nat, x = (n : Int) := ⟨x.toNat, by omega⟩
   rw [show ((n : Int)).toNat = n from by omega] at k
   have n15 : n <= 15 := by rcases near with z | z <;> omega
   have cost := fit.cost n n15
   have room := fit.room
   refine iteF ⟨_, rfl, A'.p, W.CD, dx, _, _, rfl, hp, T.cl, T.nF, df_fut _ _ _, A'.f, dxf, _, rfl, hf, ff_no _ _ (by decide +kernel) (by decide +kernel), ?_⟩
   refine ⟨_, rfl, A'.p, W.CD, dx, _, _, rfl, hp, T.cl, T.nD, df_get _ _ _, _, rfl, ?_⟩
   refine ⟨A'.f, A'.q, A'.d, A'.e, a, l, n, y, U, Ls, rfl, d.fut, SqL.of d.row, fit.look n n15, by omega, d.tb1, fun Ls2 H2 fut2 fr2 tab2 => ?_⟩
   have ht := d.tb1.at
   have d2 : DeskAt W A' H2 a (y + addR l + 2 * addD l n) U Ls2 l := ⟨(d.obs fr2 ht).1, (d.obs fr2 ht).2, fut2, tab2, d.tab3 fr2 ht d.tb2 d.nt.1.symm, d.tab3 fr2 ht d.tb3 d.nt.2.1.symm, d.nt, d.ne⟩
   have frd := d.frD fr2 (by simp [Ad.S])
   refine ⟨_, _, rfl, rfl, (show (0 : Int) < 18446744073709551616 by decide), (by show 2 <= sizeLine; decide), fun r hr' => ?_⟩
   have := k.fin d2 frd (.inl rfl) (by omega) hr'
   rw [<- mod_nat] at this
   exact this
theorem scCount : FnScope ["self", "d", "a"] ["self", "d", "a"] (defScope sCount) := ⟨rfl, rfl, rfl, by decide +kernel, rfl, by decide +kernel, by decide +kernel⟩
theorem ok_count {f fL fG : Addr} {fd fdL fdG : FuncData} (F : Fun K "how_often" "Desk.how_often" sCount f fd) (T : DTxt K mg W.CD) (TT : Txt K mg) (TF : FTxt K mg W.CF) (DG : Def K mg "may_go_by" sGo fG fdG ["d"]) (mL : Meth K W.CF "often_later" fL) (bL : Binds K fdL ["self", "row", "days", "digit"] [])
  (GL : FnOk W.P W.w K mg base CX0 11 fL fdL ["self", "row", "days", "digit"] (spOften W.P W.w K W.CF W.CP t2)) : FnOk W.P W.w K mg base CX0 12 f fd ["self", "d", "a"] (spCount W t2) := by
 have GG : FnOk W.P W.w K mg base CX0 11 fG fdG ["d"] spGo := (ok_go DG T).mono (by decide)
 refine F.ok scCount (fun vs H Q E h => ?_) (fun cdv A outer s H vs Q E hr h => ?_)
 ·obtain ⟨A', a, y, U, Ls, l, x, z, rfl, _⟩ := h
  rfl
 ·obtain ⟨A', a, y, U, Ls, l, x, z, rfl, rfl, d, fit, near, k⟩ := h
  refine ⟨_, pss_cons (ps_if (PW.pt (pw_or (pt_not (pt_val (pe_call GG hr rfl DG.mg DG.F.kp DG.b .nil pass0 (pa_cons (pv 1) pa_nil)))) (pw_or (pt_cmpR op_lt (pv 2) pe_int (nomark _)) (pw_or1 (pt_cmpR op_gt (pv 2) (pe_gi TT.highest) (nomark _)))))) (pss_one (ps_ret (pe_lst (pa_cons (pe_un un_neg pe_int) pa_nil)))) pss_nil)
   (pss_one (ps_ret (pe_lst (pa_cons pe_int (pa_cons (pe_op op_mod (pe_meth (pe_fld (pv 0) rfl) TF.cl mL GL hr bL .nil pass0 (pa_cons (pe_fld (pv 0) rfl) (pa_cons (pv 1) (pa_cons (pv 2) pa_nil)))) (pe_gi T.told)) pa_nil))))), ?_⟩
  obtain ⟨dx, hp⟩ := id d.ob
  obtain ⟨dxf, hf⟩ := d.fut.ob
  rw [step_count] at k
  have no : (Rc75.isDays x = false \/ z < 1 \/ 9 < z) -> ∀ r, H r = none -> Q (.ref r) (upd H r (.lst [V.int (-1)])) := fun h r hr' => by
   rw [if_pos h] at k
   exact After.stay k d (Same.refl H) hr'
  refine ⟨_, rfl, x, rfl, _, rfl, ?_⟩
  cases eg : Rc75.isDays x with
  | false => exact iteT (iteT ⟨_, rfl, (by show 1 <= sizeLine; decide), fun r hr' => no (.inl eg) r hr'⟩)
  | true =>
   refine iteF ⟨_, rfl, _, _, rfl, rfl, _, rfl, ?_⟩
   refine ite2 (fun h => ?_) (fun h => ?_)
   ·have h' := of_decide_eq_true h
    exact iteT ⟨_, rfl, (by show 1 <= sizeLine; decide), fun r hr' => no (.inr (.inl h')) r hr'⟩
   have h1 : ¬ (z < 1) := fun q => h (decide_eq_true q)
   refine ⟨_, rfl, _, _, rfl, rfl, _, rfl, ?_⟩
   refine ite2 (fun h => ?_) (fun h => ?_)
   ·have h' := of_decide_eq_true h
    exact ⟨_, rfl, (by show 1 <= sizeLine; decide), fun r hr' => no (.inr (.inr h')) r hr'⟩
   have h2 : ¬ ((9 : Int) < z) := fun q => h (decide_eq_true q)
   rw [if_neg (by rintro (q | q | q); · rw [eg] at q; cases q
                  ·exact h1 q
                  ·exact h2 q)] at k
   have hx := go_yes eg
   obtain ⟨n, rfl⟩ : ∃ n : Nat, x = (n : Int) := ⟨x.toNat, by omega⟩
   obtain ⟨c, rfl⟩ : ∃ c : Nat, z = (c : Int) := ⟨z.toNat, by omega⟩
   rw [show ((n : Int)).toNat = n from by omega, show ((c : Int)).toNat = c from by omega] at k
   have n15 : n <= 15 := by rcases near with z | z <;> omega
   have cost := fit.cost n n15
   have room := fit.room
   refine ⟨_, rfl, A'.p, W.CD, dx, _, _, rfl, hp, T.cl, T.nF, df_fut _ _ _, A'.f, dxf, _, rfl, hf, ff_no _ _ (by decide +kernel) (by decide +kernel), ?_⟩
   refine ⟨_, rfl, A'.p, W.CD, dx, _, _, rfl, hp, T.cl, T.nD, df_get _ _ _, _, rfl, _, rfl, ?_⟩
   refine ⟨A'.f, A'.q, A'.d, A'.e, a, l, n, y, c, U, Ls, rfl, d.fut, SqL.of d.row, fit.look n n15, by omega, d.tb2, fun Ls2 H2 fut2 fr2 tab2 => ?_⟩
   have ht := d.tb2.at
   have d2 : DeskAt W A' H2 a (y + addR l + 2 * addD l n) U Ls2 l := ⟨(d.obs fr2 ht).1, (d.obs fr2 ht).2, fut2, d.tab3 fr2 ht d.tb1 d.nt.1, tab2, d.tab3 fr2 ht d.tb3 d.nt.2.2.symm, d.nt, d.ne⟩
   have frd := d.frD fr2 (by simp [Ad.S])
   refine ⟨_, _, rfl, rfl, (show (0 : Int) < 18446744073709551616 by decide), (by show 2 <= sizeLine; decide), fun r hr' => ?_⟩
   have := k.fin d2 frd (.inl rfl) (by omega) hr'
   rw [<- count_filter, <- mod_nat] at this
   exact this
theorem scAt : FnScope ["self", "d", "i", "digit"] ["self", "d", "i"] (defScope sAt) := ⟨rfl, rfl, rfl, by decide +kernel, rfl, by decide +kernel, by decide +kernel⟩
theorem ok_at {f fL fG : Addr} {fd fdL fdG : FuncData} (F : Fun K "digit_at" "Desk.digit_at" sAt f fd) (T : DTxt K mg W.CD) (TF : FTxt K mg W.CF) (DG : Def K mg "may_go_by" sGo fG fdG ["d"]) (mL : Meth K W.CF "digit_later" fL) (bL : Binds K fdL ["self", "row", "days", "place"] [])
  (GL : FnOk W.P W.w K mg base CX0 11 fL fdL ["self", "row", "days", "place"] (spDigitL W.P W.w K W.CF W.CP t3)) : FnOk W.P W.w K mg base CX0 12 f fd ["self", "d", "i"] (spAt W t3) := by
 have GG : FnOk W.P W.w K mg base CX0 11 fG fdG ["d"] spGo := (ok_go DG T).mono (by decide)
 refine F.ok scAt (fun vs H Q E h => ?_) (fun cdv A outer s H vs Q E hr h => ?_)
 ·obtain ⟨A', a, y, U, Ls, l, x, z, rfl, _⟩ := h
  rfl
 ·obtain ⟨A', a, y, U, Ls, l, x, z, rfl, rfl, d, fit, near, hz, k⟩ := h
  refine ⟨_, pss_cons (ps_if (pt_not (pt_val (pe_call GG hr rfl DG.mg DG.F.kp DG.b .nil pass0 (pa_cons (pv 1) pa_nil)))) (pss_one (ps_ret (pe_lst (pa_cons (pe_un un_neg pe_int) pa_nil)))) pss_nil)
   (pss_cons (ps_set (i := 3) scAt.nd rfl (Or.inl rfl) (pe_meth (pe_fld (pv 0) rfl) TF.cl mL GL hr bL .nil pass0 (pa_cons (pe_fld (pv 0) rfl) (pa_cons (pv 1) (pa_cons (pv 2) pa_nil)))))
   (pss_cons (ps_if (pt_cmp (pc_isN (pv 3))) (pss_one (ps_ret (pe_lst (pa_cons (pe_un un_neg pe_int) pa_nil)))) pss_nil)
   (pss_one (ps_ret (pe_lst (pa_cons (pv 3) pa_nil)))))), ?_⟩
  obtain ⟨dx, hp⟩ := id d.ob
  obtain ⟨dxf, hf⟩ := d.fut.ob
  rw [step_at] at k
  refine ⟨_, rfl, x, rfl, _, rfl, ?_⟩
  cases eg : Rc75.isDays x with
  | false =>
   rw [if_pos eg] at k
   refine iteT ⟨_, rfl, (by show 1 <= sizeLine; decide), fun r hr' => ?_⟩
   exact After.stay k d (Same.refl H) hr'
  | true =>
   rw [if_neg (by rw [eg]; decide)] at k
   have hx := go_yes eg
   obtain ⟨n, rfl⟩ : ∃ n : Nat, x = (n : Int) := ⟨x.toNat, by omega⟩
   obtain ⟨i, rfl⟩ : ∃ i : Nat, z = (i : Int) := ⟨z.toNat, by omega⟩
   rw [show ((n : Int)).toNat = n from by omega, show ((i : Int)).toNat = i from by omega] at k
   have n15 : n <= 15 := by rcases near with z | z <;> omega
   have cost := fit.cost n n15
   have room := fit.room
   refine iteF ⟨_, rfl, A'.p, W.CD, dx, _, _, rfl, hp, T.cl, T.nF, df_fut _ _ _, A'.f, dxf, _, rfl, hf, ff_no _ _ (by decide +kernel) (by decide +kernel), ?_⟩
   refine ⟨_, rfl, A'.p, W.CD, dx, _, _, rfl, hp, T.cl, T.nD, df_get _ _ _, _, rfl, _, rfl, ?_⟩
   refine ⟨A'.f, A'.q, A'.d, A'.e, a, l, n, y, i, U, Ls, rfl, d.fut, SqL.of d.row, fit.look n n15, by omega, d.tb3, fun Ls2 H2 fut2 fr2 tab2 => ?_⟩
   have ht := d.tb3.at
   have d2 : DeskAt W A' H2 a (y + addR l + 3 * addD l n) U Ls2 l := ⟨(d.obs fr2 ht).1, (d.obs fr2 ht).2, fut2, d.tab3 fr2 ht d.tb1 d.nt.2.1, d.tab3 fr2 ht d.tb2 d.nt.2.2, tab2, d.nt, d.ne⟩
   have frd := d.frD fr2 (by simp [Ad.S])
   cases ed : (Rc75.later n l)[i]? with
   | none =>
    rw [show (Rc75.later n (Rc75.Abs.row ⟨l⟩))[i]? = none from ed] at k
    refine ⟨_, rfl, _, rfl, iteT ⟨_, rfl, (by show 1 <= sizeLine; decide), fun r hr' => ?_⟩⟩
    exact After.fin (ans := [-1]) k d2 frd (.inl rfl) (by omega) hr'
   | some v =>
    rw [show (Rc75.later n (Rc75.Abs.row ⟨l⟩))[i]? = some v from ed] at k
    refine ⟨_, rfl, _, rfl, iteF ⟨_, rfl, (by show 1 <= sizeLine; decide), fun r hr' => ?_⟩⟩
    exact After.fin (ans := [(v : Int)]) k d2 frd (.inl rfl) (by omega) hr'
theorem scCuts : FnScope ["self", "most", "places"] ["self", "most"] (defScope sCuts) := ⟨rfl, rfl, rfl, by decide +kernel, rfl, by decide +kernel, by decide +kernel⟩
theorem nV_length (l : List Nat) : (nV l).length = l.length := List.length_map ..
theorem nV_ints (l : List Nat) : nV l = (rowI l).map V.int := by unfold nV rowI; rw [List.map_map]; rfl
theorem ok_cuts {f fL fM : Addr} {fd fdL fdM : FuncData} (F : Fun K "cuts" "Desk.cuts" sCuts f fd) (T : DTxt K mg W.CD) (TT : Txt K mg) (TK : KTxt K mg W.CP) (DM : Def K mg "counted_most" sMost fM fdM ["most"]) (ML : MDef K W.CP "places" "Parting.places" sPlaces fL fdL ["self", "row"])
  (GL : FnOk W.P W.w K mg base CX0 11 fL fdL ["self", "row"] (spPlaces W.P W.w K W.CP)) : FnOk W.P W.w K mg base CX0 12 f fd ["self", "most"] (spCuts W) := by
 have GM : FnOk W.P W.w K mg base CX0 11 fM fdM ["most"] spMost := (ok_most DM TT).mono (by decide)
 refine F.ok scCuts (fun vs H Q E h => ?_) (fun cdv A outer s H vs Q E hr h => ?_)
 ·obtain ⟨A', a, y, U, Ls, l, x, rfl, _⟩ := h
  rfl
 ·obtain ⟨A', a, y, U, Ls, l, x, rfl, d, fit, k⟩ := h
  refine ⟨_, pss_cons (ps_set (i := 2) scCuts.nd rfl (Or.inl rfl) (pe_meth (pe_fld (pv 0) rfl) TK.cl ML.me GL hr ML.b .nil pass0 (pa_cons (pe_fld (pv 0) rfl) pa_nil)))
   (pss_cons (ps_if (pt_cmpR op_gt (pe_callB call_len_seq (by rfl) TT.len PySem.boot_len (pa_cons (pv 2) pa_nil)) (pe_call GM hr rfl DM.mg DM.F.kp DM.b .nil pass0 (pa_cons (pv 1) pa_nil)) (nomark _))
    (pss_one (ps_ret (pe_lst (pa_cons (pe_un un_neg pe_int) pa_nil)))) pss_nil)
   (pss_one (ps_ret (pe_op op_cat (pe_lst (pa_cons (pe_callB call_len_seq (by rfl) TT.len PySem.boot_len (pa_cons (pv 2) pa_nil)) pa_nil)) (pv 2))))), ?_⟩
  obtain ⟨dx, hp⟩ := id d.ob
  obtain ⟨dxq, hq⟩ := d.fut.part.ob
  have L0 := fit.look 0 (by decide)
  have hl : l.length <= 16777216 := L0.sz 0 (Nat.zero_le _)
  have cost := fit.cost 0 (by decide)
  have room := fit.room
  rw [step_cuts] at k
  refine ⟨_, rfl, A'.p, W.CD, dx, _, _, rfl, hp, T.cl, T.nP, df_part _ _ _, A'.q, dxq, _, rfl, hq, kf_no _ (by decide +kernel), ?_⟩
  refine ⟨_, rfl, A'.p, W.CD, dx, _, _, rfl, hp, T.cl, T.nD, df_get _ _ _, ?_⟩
  refine ⟨A'.q, A'.d, a, l, y, y + addR l, rfl, d.fut.part, SqL.of d.row, L0.pl, hl, addR_ok l y, by omega, fun L H2 hL hL2 part2 k2 => ?_⟩
  obtain ⟨d2, frd⟩ := d.parted k2 part2
  refine ⟨_, rfl, L, _, rfl, .inl (SqL.of hL2), _, rfl, x, rfl, _, _, rfl, rfl, _, rfl, ?_⟩
  rw [nV_length]
  refine ite2 (fun h => ?_) (fun h => ?_)
  ·have h' := of_decide_eq_true h
   rw [if_pos (show Rc75.roomOf x < (Rc75.cutsOf (Rc75.Abs.row ⟨l⟩)).length by show Rc75.roomOf x < (Rc75.cutsOf l).length; omega)] at k
   refine ⟨_, rfl, (by show 1 <= sizeLine; decide), fun r hr' => ?_⟩
   exact After.fin k d2 frd (.inl rfl) (by omega) hr'
  ·have h' : ¬ ((Rc75.roomOf x : Int) < ((Rc75.cutsOf l).length : Int)) := fun z => h (decide_eq_true z)
   rw [if_neg (show ¬ Rc75.roomOf x < (Rc75.cutsOf (Rc75.Abs.row ⟨l⟩)).length by show ¬ Rc75.roomOf x < (Rc75.cutsOf l).length; omega)] at k
   have few := cuts_few l
   have lr : Rc75.roomOf x <= 65536 := by
    unfold Rc75.roomOf
    split
    ·rename_i q
     have : (Rc75.LONG : Int) = 65536 := rfl
     omega
    ·omega
   refine ⟨_, rfl, L, _, rfl, .inl (SqL.of hL2), (by show 1 <= sizeLine; decide), fun t ht => ?_⟩
   have s1 : Same H2 (upd H2 t (.lst [V.int ((nV (Rc75.cutsOf l)).length : Int)])) := same_new ht
   refine ⟨_, rfl, t, L, _, _, rfl, rfl, upd_same, s1 _ _ hL2, line_le (by rw [nV_length]; show 1 + _ <= _; omega), fun r hr' => ?_⟩
   have := After.fin k (d2.same s1) (frd.same s1) (.inl rfl) (by omega) hr'
   rw [nV_length] at this ⊢
   rw [nV_ints]
   exact this
end
end RA
end
section
namespace RA
open PySem L2
open Rc75 (Row)
open Rc75Neutral (step asked1 natsOf start)
open PyFlat (put put1 putRow putRows told played)
abbrev sRInit : Stmt := inClass (top 34) 0
abbrev sMore : Stmt := inClass (top 34) 1
abbrev sNum : Stmt := inClass (top 34) 2
abbrev sList : Stmt := inClass (top 34) 3
abbrev sOne : Stmt := top 37
abbrev sAnswers : Stmt := top 38
theorem np : ¬ (("numbers" : Str) = "place") := by decide +kernel
def rf (c : Addr) (n : Nat) : List (Str × V) := putF "place" (.int (n : Int)) (putF "numbers" (.ref c) [])
theorem rf_eq (c : Addr) (n : Nat) : rf c n = ([("numbers", V.ref c), ("place", V.int (n : Int))] : List (Str × V)) := by
 show (if ("numbers" : Str) = "place" then [(("numbers" : Str), V.int (n : Int))] else (("numbers" : Str), V.ref c) :: putF "place" (V.int (n : Int)) []) = ([("numbers", V.ref c), ("place", V.int (n : Int))] : List (Str × V))
 rw [if_neg np]
 all_goals rfl
theorem rf_numbers (c : Addr) (n : Nat) : (rf c n).lookup ("numbers" : Str) = some (.ref c) := by
 unfold rf
 rw [lookup_putF, if_neg np, lookup_putF, if_pos rfl]
theorem rf_place (c : Addr) (n : Nat) : (rf c n).lookup ("place" : Str) = some (.int (n : Int)) := by
 unfold rf
 rw [lookup_putF, if_pos rfl]
theorem rf_no (c : Addr) (n : Nat) {m : Str} (h1 : ¬ m = "place") (h2 : ¬ m = "numbers") : (rf c n).lookup m = none := by
 unfold rf
 rw [lookup_putF, if_neg h1, lookup_putF, if_neg h2]
 all_goals rfl
theorem rf_put (c : Addr) (n m : Nat) : putF "place" (.int (m : Int)) (rf c n) = rf c m := by
 rw [rf_eq, rf_eq]
 show (if ("numbers" : Str) = "place" then _ else (("numbers" : Str), V.ref c) :: (if ("place" : Str) = "place" then [(("place" : Str), V.int (m : Int))] else _)) = ([("numbers", V.ref c), ("place", V.int (m : Int))] : List (Str × V))
 rw [if_neg np, if_pos rfl]
theorem rf_few (c : Addr) (n : Nat) : (rf c n).length < 1000 := by
 rw [rf_eq]
 show 2 < 1000
 decide
def ReaderAt (C : Addr) (H : Hp) (q c : Addr) (n : Nat) : Prop := ∃ dx, H q = some (.ins C dx (rf c n))
def Kept (H H' : Hp) (p : Addr) : Prop := ∀ b o, H b = some o -> b ≠ p -> H' b = some o
theorem Kept.trans {H H1 H2 : Hp} {p : Addr} (h1 : Kept H H1 p) (h2 : Kept H1 H2 p) : Kept H H2 p := fun b o e hb => h2 b o (h1 b o e hb) hb
theorem Kept.seq {K : PySem.W.Frag} {H H' : Hp} {p c dx C : Addr} {fs : List (Str × V)} {xs : List V} (k : Kept H H' p) (hp : H p = some (.ins C dx fs)) (h : SqL K H c xs) : SqL K H' c xs := by
 rcases h with (h | ⟨o, h⟩) | h
 ·exact .inl (.inl (k _ _ h (ne_of h hp (by intro z; cases z))))
 ·exact .inl (.inr ⟨o, k _ _ h (ne_of h hp (by intro z; cases z))⟩)
 ·exact .inr h
theorem Kept.free {H H' : Hp} {p b : Addr} (k : Kept H H' p) (hb : H' b = none) (hp : ∃ o, H' p = some o) : H b = none := But.free k hb hp
def Off (A : Ad) (q : Addr) : Prop := q ≠ A.p /\ q ≠ A.q /\ q ≠ A.f
theorem Kept.desk {W : Wd} {A : Ad} {D : Addr} {H H' : Hp} {a q c : Addr} {y n : Nat} {U : List Row} {Ls : List Addr} {l : Row} (k : Kept H H' q) (d : DeskAt W A H a y U Ls l) (r : ReaderAt D H q c n) (o : Off A q) : DeskAt W A H' a y U Ls l := by
 obtain ⟨dy, h2⟩ := r
 exact d.off k (.inr ⟨_, _, _, h2, o⟩)
theorem DeskAt.rdr {W : Wd} {A : Ad} {D : Addr} {H : Hp} {a q c : Addr} {y n : Nat} {U : List Row} {Ls : List Addr} {l : Row} (d : DeskAt W A H a y U Ls l) (r : ReaderAt D H q c n) (o : Off A q) : q ∉ A.S := by
 obtain ⟨dy, hb⟩ := r
 obtain ⟨⟨dx', ob⟩, row, fut, tb1, tb2, tb3, nt, ne⟩ := d
 obtain ⟨⟨φ, hd⟩, kv, he⟩ := fut.here
 intro z
 simp only [Ad.S, List.mem_cons, List.not_mem_nil, or_false] at z
 rcases z with rfl | rfl | rfl | rfl | rfl | rfl
 ·exact o.1 rfl
 ·rw [hd] at hb; cases hb
 ·rw [he] at hb; cases hb
 ·obtain ⟨ps, q⟩ := tb1.at; rw [q] at hb; cases hb
 ·obtain ⟨ps, q⟩ := tb2.at; rw [q] at hb; cases hb
 ·obtain ⟨ps, q⟩ := tb3.at; rw [q] at hb; cases hb
structure RTxt (K : PySem.W.Frag) (mg : Str -> Option Value) (C : Addr) : Prop where
 cl : Cls K C
 nN : NoAttr K C "numbers"
 nP : NoAttr K C "place"
 mgC : mg "Reader" = some (.ref C)
def spRInit (C : Addr) : Sp := fun vs H Q _ => ∃ (q c dx : Addr), vs = [.ref q, .ref c] /\ H q = some (.ins C dx []) /\ ∀ H' : Hp, ReaderAt C H' q c 0 -> Kept H H' q -> Q .non H'
def spMore (K : PySem.W.Frag) (C : Addr) : Sp := fun vs H Q _ => ∃ (q c : Addr) (n : Nat) (xs : List V), vs = [.ref q] /\ ReaderAt C H q c n /\ SqL K H c xs /\ Q (.bl (decide ((n : Int) < (xs.length : Int)))) H
def spNum (K : PySem.W.Frag) (C : Addr) : Sp := fun vs H Q _ => ∃ (q c : Addr) (n : Nat) (xs : List V) (v : V), vs = [.ref q] /\ ReaderAt C H q c n /\ SqL K H c xs /\ xs[n]? = some v /\
 ∀ H' : Hp, ReaderAt C H' q c (n + 1) -> Kept H H' q -> Q v H'
def spList (K : PySem.W.Frag) (C : Addr) : Sp := fun vs H Q _ => ∃ (q c : Addr) (pre ys post : List V), vs = [.ref q] /\ ReaderAt C H q c pre.length /\ SqL K H c (pre ++ V.int (ys.length : Int) :: (ys ++ post)) /\
 ∀ (r : Addr) (H' : Hp), H r = none -> H' r = some (.lst ys) -> ReaderAt C H' q c (pre.length + 1 + ys.length) -> Kept H H' q -> Q (.ref r) H'
section
variable {P : Program} {w : World} {K : PySem.W.Frag} {mg : Str -> Option Value} {base : Heap}
theorem scRInit : FnScope ["self", "numbers"] ["self", "numbers"] (defScope sRInit) := ⟨rfl, rfl, rfl, by decide +kernel, rfl, by decide +kernel, by decide +kernel⟩
theorem ok_rinit {f C : Addr} {fd : FuncData} (F : Fun K "__init__" "Reader.__init__" sRInit f fd) (T : RTxt K mg C) : FnOk P w K mg base CX0 1 f fd ["self", "numbers"] (spRInit C) := by
 refine F.ok scRInit (fun vs H Q E h => ?_) (fun cdv A outer s H vs Q E hr h => ?_)
 ·obtain ⟨q, c, dx, rfl, _⟩ := h
  rfl
 ·obtain ⟨q, c, dx, rfl, hq, k⟩ := h
  refine ⟨_, pss_cons (ps_fld (pv 0) (pv 1) rfl) (pss_one (ps_fld (pv 0) pe_int rfl)), ?_⟩
  refine ⟨_, rfl, _, rfl, q, C, dx, [], rfl, hq, T.cl, T.nN, (by show 0 < 1000; decide), ?_⟩
  refine ⟨_, rfl, q, C, dx, _, rfl, upd_same, T.cl, T.nP, (by show 1 < 1000; decide), ?_⟩
  exact k _ ⟨dx, upd_same⟩ fun b o e hb => by rw [upd_ne hb, upd_ne hb]; exact e
theorem scMore : FnScope ["self"] ["self"] (defScope sMore) := ⟨rfl, rfl, rfl, by decide +kernel, rfl, by decide +kernel, by decide +kernel⟩
theorem ok_more {f C : Addr} {fd : FuncData} (F : Fun K "has_more" "Reader.has_more" sMore f fd) (T : RTxt K mg C) (TT : Txt K mg) : FnOk P w K mg base CX0 1 f fd ["self"] (spMore K C) := by
 refine F.ok scMore (fun vs H Q E h => ?_) (fun cdv A outer s H vs Q E hr h => ?_)
 ·obtain ⟨q, c, n, xs, rfl, _⟩ := h
  rfl
 ·obtain ⟨q, c, n, xs, rfl, ⟨dx, hq⟩, hc, k⟩ := h
  refine ⟨_, pss_one (ps_ret (pe_cmpR op_lt (pe_fld (pv 0) rfl) (pe_callB call_len_seq (by rfl) TT.len PySem.boot_len (pa_cons (pe_fld (pv 0) rfl) pa_nil)) (nomark _))), ?_⟩
  exact ⟨_, rfl, q, C, dx, _, _, rfl, hq, T.cl, T.nP, rf_place _ _, _, rfl, q, C, dx, _, _, rfl, hq, T.cl, T.nN, rf_numbers _ _, c, xs, rfl, .inl hc, _, _, rfl, rfl, k⟩
theorem scNum : FnScope ["self", "number"] ["self"] (defScope sNum) := ⟨rfl, rfl, rfl, by decide +kernel, rfl, by decide +kernel, by decide +kernel⟩
theorem ok_num {f C : Addr} {fd : FuncData} (F : Fun K "read_number" "Reader.read_number" sNum f fd) (T : RTxt K mg C) : FnOk P w K mg base CX0 1 f fd ["self"] (spNum K C) := by
 refine F.ok scNum (fun vs H Q E h => ?_) (fun cdv A outer s H vs Q E hr h => ?_)
 ·obtain ⟨q, c, n, xs, v, rfl, _⟩ := h
  rfl
 ·obtain ⟨q, c, n, xs, v, rfl, ⟨dx, hq⟩, hc, hv, k⟩ := h
  refine ⟨_, pss_cons (ps_set (i := 1) scNum.nd rfl (Or.inl rfl) (pe_ix ix_list (pe_fld (pv 0) rfl) (pe_fld (pv 0) rfl) (fun _ _ => rfl)))
   (pss_cons (ps_fldaug (pv 0) pe_int in_add) (pss_one (ps_ret (pv 1)))), ?_⟩
  refine ⟨_, rfl, q, C, dx, _, _, rfl, hq, T.cl, T.nN, rf_numbers _ _, _, rfl, q, C, dx, _, _, rfl, hq, T.cl, T.nP, rf_place _ _, c, xs, _, _, rfl, rfl, hc, atI_nat hv, ?_⟩
  refine ⟨_, rfl, q, C, dx, _, _, rfl, hq, T.cl, T.nP, rf_place _ _, _, _, rfl, rfl, dx, _, hq, rf_few _ _, ?_⟩
  rw [show (n : Int) + 1 = ((n + 1 : Nat) : Int) from by omega, rf_put]
  exact ⟨_, rfl, k _ ⟨dx, upd_same⟩ fun b o e hb => by rw [upd_ne hb]; exact e⟩
theorem scList : FnScope ["self", "many", "start"] ["self"] (defScope sList) := ⟨rfl, rfl, rfl, by decide +kernel, rfl, by decide +kernel, by decide +kernel⟩
theorem cut_mid (pre ys post : List V) (z : V) : cutV (pre ++ z :: (ys ++ post)) (some ((pre.length + 1 : Nat) : Int)) (some ((pre.length + 1 + ys.length : Nat) : Int)) = ys := by
 unfold cutV
 rw [HT.sIx_nat, HT.sIx_nat]
 have e1 : min (pre.length + 1) (pre ++ z :: (ys ++ post)).length = (pre ++ [z]).length := by
  simp only [List.length_append, List.length_cons, List.length_nil]
  omega
 have e2 : min (pre.length + 1 + ys.length) (pre ++ z :: (ys ++ post)).length - min (pre.length + 1) (pre ++ z :: (ys ++ post)).length = ys.length := by
  simp only [List.length_append, List.length_cons]
  omega
 rw [e2, e1, show pre ++ z :: (ys ++ post) = (pre ++ [z]) ++ (ys ++ post) from by simp, List.drop_left, List.take_left]
theorem ok_list {f C fN : Addr} {fd fdN : FuncData} (F : Fun K "read_list" "Reader.read_list" sList f fd) (T : RTxt K mg C) (MN : MDef K C "read_number" "Reader.read_number" sNum fN fdN ["self"]) : FnOk P w K mg base CX0 2 f fd ["self"] (spList K C) := by
 have GN : FnOk P w K mg base CX0 1 fN fdN ["self"] (spNum K C) := ok_num MN.F T
 refine F.ok scList (fun vs H Q E h => ?_) (fun cdv A outer s H vs Q E hr h => ?_)
 ·obtain ⟨q, c, pre, ys, post, rfl, _⟩ := h
  rfl
 ·obtain ⟨q, c, pre, ys, post, rfl, hR, hc, k⟩ := h
  refine ⟨_, pss_cons (ps_set (i := 1) scList.nd rfl (Or.inl rfl) (pe_meth0 (pv 0) T.cl MN.me GN hr MN.b .nil pass0))
   (pss_cons (ps_set (i := 2) scList.nd rfl (Or.inl rfl) (pe_fld (pv 0) rfl))
   (pss_cons (ps_fldaug (pv 0) (pv 1) in_add)
   (pss_one (ps_ret (pe_slice sl_list (pe_fld (pv 0) rfl) (po_some (pv 2)) (po_some (pe_fld (pv 0) rfl))))))), ?_⟩
  obtain ⟨dx, hq⟩ := id hR
  refine ⟨_, rfl, q, dx, _, rfl, hq, rf_no _ _ (by decide +kernel) (by decide +kernel), q, c, pre.length, _, _, rfl, hR, hc, (by rw [List.getElem?_append_right (Nat.le_refl _), Nat.sub_self]; rfl), fun H1 hR1 k1 => ?_⟩
  obtain ⟨dx1, hq1⟩ := id hR1
  have hc1 := k1.seq hq hc
  refine ⟨_, rfl, q, C, dx1, _, _, rfl, hq1, T.cl, T.nP, rf_place _ _, ?_⟩
  refine ⟨_, rfl, q, C, dx1, _, _, rfl, hq1, T.cl, T.nP, rf_place _ _, _, rfl, _, _, rfl, rfl, dx1, _, hq1, rf_few _ _, ?_⟩
  rw [show ((pre.length + 1 : Nat) : Int) + (ys.length : Int) = ((pre.length + 1 + ys.length : Nat) : Int) from by omega, rf_put]
  have k2 : Kept H1 (upd H1 q (.ins C dx1 (rf c (pre.length + 1 + ys.length)))) q := fun b o e hb => by rw [upd_ne hb]; exact e
  refine ⟨_, rfl, q, C, dx1, _, _, rfl, upd_same, T.cl, T.nN, rf_numbers _ _, _, rfl, _, rfl, _, rfl, q, C, dx1, _, _, rfl, upd_same, T.cl, T.nP, rf_place _ _, _, rfl, c, _, rfl, k2.seq hq1 hc1, fun r hr' => ?_⟩
  rw [cut_mid]
  have nqr : q ≠ r := ne_of_none upd_same hr'
  have k12 := k1.trans k2
  refine k r _ (k12.free hr' ⟨_, upd_same⟩) upd_same ⟨dx1, by rw [upd_ne nqr, upd_same]⟩ fun b o e hb => ?_
  have e1 := k12 b o e hb
  rw [upd_ne (ne_of_none e1 hr')]
  exact e1
end
end RA
end
section
namespace RA
open PySem L2
open Rc75 (Row)
open Rc75Neutral (step asked1 natsOf start whole32 natural)
open PyFlat (put put1 putRow putRows told played)
theorem numT {x y : Int} {A B : Prop} (h : x = y) (a : A) : if decide (V.int x = V.int y) = true then A else B := by
 rw [if_pos (decide_eq_true (by rw [h]))]
 exact a
theorem numF {x y : Int} {A B : Prop} (h : x ≠ y) (b : B) : if decide (V.int x = V.int y) = true then A else B := by
 rw [if_neg (by rw [decide_eq_false (by intro z; injection z with z; exact h z)]; decide)]
 exact b
theorem get_mid {all pre post : List Int} {z : Int} {n : Nat} (h : all = pre ++ z :: post) (hn : n = pre.length) : (all.map V.int)[n]? = some (V.int z) := by
 subst h hn
 simp
theorem near_of {a : Int} (h : (whole32 a && (decide (a <= 15) || decide (120 < a))) = true) : Near a := by
 simp only [Bool.and_eq_true, Bool.or_eq_true, decide_eq_true_eq] at h
 exact h.2
theorem near6 {a b : Int} (h : (whole32 a && (whole32 b && (decide (a <= 15) || decide (120 < a)))) = true) : Near a := by
 simp only [Bool.and_eq_true, Bool.or_eq_true, decide_eq_true_eq] at h
 exact h.2.2
theorem near7 {a b : Int} (h : (whole32 a && (natural b 64 && (decide (a <= 15) || decide (120 < a)))) = true) : Near a /\ 0 <= b := by
 simp only [Bool.and_eq_true, Bool.or_eq_true, decide_eq_true_eq, natural] at h
 exact ⟨h.2.2, h.2.1.1⟩
structure OTxt (K : PySem.W.Frag) (mg : Str -> Option Value) : Prop where
 k0 : GI mg "BEGIN" 0
 k1 : GI mg "SET" 1
 k2 : GI mg "ROW" 2
 k3 : GI mg "DAYS" 3
 k4 : GI mg "BACK" 4
 k5 : GI mg "LONG" 5
 k6 : GI mg "COUNT" 6
 k7 : GI mg "AT" 7
 k8 : GI mg "CUTS" 8
def OneEnd (W : Wd) (A : Ad) (CR : Addr) (H : Hp) (a q c : Addr) (y : Nat) (U : List Row) (Ls : List Addr) (l : Row) (ans : List Int) (n : Nat) (Q : VK) : Prop :=
 ∀ (r b : Addr) (Ls' : List Addr) (H' : Hp), H r = none -> (b = a \/ H b = none) -> H' r = some (.lst (ans.map V.int)) -> DeskAt W A H' b (y + YC) U Ls' l -> ReaderAt CR H' q c n -> (∀ b o, H b = some o -> b ∉ A.S -> b ≠ q -> H' b = some o) -> (∀ L, L ∈ Ls' -> L ∈ Ls \/ H L = none) -> Q (.ref r) H'
def spOne (W : Wd) (K : PySem.W.Frag) (CR t1 t2 t3 : Addr) : Sp := fun vs H Q _ => ∃ (A : Ad) (a q c : Addr) (y : Nat) (U : List Row) (Ls : List Addr) (l : Row) (all pre post : List Int) (cc : List (List Int)), vs = [.ref A.p, .ref q] /\ (A.t1 = t1 /\ A.t2 = t2 /\ A.t3 = t3) /\ Off A q /\ DeskAt W A H a y U Ls l /\ ReaderAt CR H q c pre.length /\ SqL K H c (all.map V.int) /\
 all = pre ++ (put1 cc ++ post) /\ Shape cc /\ asked1 (PyRc75.whole cc) = true /\ Good l /\ Fit l U y /\
 OneEnd W A CR H a q c y U Ls (step ⟨l⟩ (PyRc75.whole cc)).1.row (step ⟨l⟩ (PyRc75.whole cc)).2 (pre.length + (put1 cc).length) Q
theorem OneEnd.after {W : Wd} {A : Ad} {CR : Addr} {H H1 : Hp} {q c a : Addr} {y n : Nat} {U : List Row} {Ls : List Addr} {l l0 : Row} {ans : List Int} {Q : VK} (k : OneEnd W A CR H a q c y U Ls l ans n Q) (k1 : Kept H H1 q) (d1 : DeskAt W A H1 a y U Ls l0) (r1 : ReaderAt CR H1 q c n) (of : Off A q) : After W A H1 a y U Ls l ans Q := by
 intro r b Ls2 H2 hr hb h2 d2 k2
 have nS := d1.rdr r1 of
 obtain ⟨dx, hq⟩ := id r1
 exact k r b Ls2 H2 (k1.free hr ⟨_, hq⟩) (hb.imp id fun z => k1.free z ⟨_, hq⟩) h2 d2 ⟨dx, k2.keep _ _ hq nS⟩ (fun x o e hp hq => k2.keep x o (k1 x o e hq) hp) fun L hL => (k2.ls L hL).imp id fun z => k1.free z ⟨_, hq⟩
section
variable {W : Wd} {K : PySem.W.Frag} {mg : Str -> Option Value} {base : Heap}
theorem scOne : FnScope ["desk", "reader", "number", "d"] ["desk", "reader"] (defScope sOne) := ⟨rfl, rfl, rfl, by decide +kernel, rfl, by decide +kernel, by decide +kernel⟩
theorem ok_one {f CR t1 t2 t3 fBg fPu fRo fDa fBa fLo fCo fAt fCu fNu fLi : Addr} {fd fdBg fdPu fdRo fdDa fdBa fdLo fdCo fdAt fdCu fdNu fdLi : FuncData} (D : Def K mg "answer_one" sOne f fd ["desk", "reader"]) (TD : DTxt K mg W.CD) (TR : RTxt K mg CR) (O : OTxt K mg)
  (MBg : MDef K W.CD "begin" "Desk.begin" sBegin fBg fdBg ["self"]) (GBg : FnOk W.P W.w K mg base CX0 12 fBg fdBg ["self"] (spBegin W))
  (MPu : MDef K W.CD "put" "Desk.put" sPut fPu fdPu ["self", "digits"]) (GPu : FnOk W.P W.w K mg base CX0 12 fPu fdPu ["self", "digits"] (spPut W K))
  (MRo : MDef K W.CD "row" "Desk.row" sRow fRo fdRo ["self", "most"]) (GRo : FnOk W.P W.w K mg base CX0 12 fRo fdRo ["self", "most"] (spRow W))
  (MDa : MDef K W.CD "days" "Desk.days" sDays fDa fdDa ["self", "d"]) (GDa : FnOk W.P W.w K mg base CX0 12 fDa fdDa ["self", "d"] (spDays W))
  (MBa : MDef K W.CD "back" "Desk.back" sBack fBa fdBa ["self"]) (GBa : FnOk W.P W.w K mg base CX0 12 fBa fdBa ["self"] (spBack W))
  (MLo : MDef K W.CD "how_long" "Desk.how_long" sLong fLo fdLo ["self", "d"]) (GLo : FnOk W.P W.w K mg base CX0 12 fLo fdLo ["self", "d"] (spLong W t1))
  (MCo : MDef K W.CD "how_often" "Desk.how_often" sCount fCo fdCo ["self", "d", "a"]) (GCo : FnOk W.P W.w K mg base CX0 12 fCo fdCo ["self", "d", "a"] (spCount W t2))
  (MAt : MDef K W.CD "digit_at" "Desk.digit_at" sAt fAt fdAt ["self", "d", "i"]) (GAt : FnOk W.P W.w K mg base CX0 12 fAt fdAt ["self", "d", "i"] (spAt W t3))
  (MCu : MDef K W.CD "cuts" "Desk.cuts" sCuts fCu fdCu ["self", "most"]) (GCu : FnOk W.P W.w K mg base CX0 12 fCu fdCu ["self", "most"] (spCuts W))
  (MNu : MDef K CR "read_number" "Reader.read_number" sNum fNu fdNu ["self"]) (GNu : FnOk W.P W.w K mg base CX0 12 fNu fdNu ["self"] (spNum K CR))
  (MLi : MDef K CR "read_list" "Reader.read_list" sList fLi fdLi ["self"]) (GLi : FnOk W.P W.w K mg base CX0 12 fLi fdLi ["self"] (spList K CR)) : FnOk W.P W.w K mg base CX0 13 f fd ["desk", "reader"] (spOne W K CR t1 t2 t3) := by
 refine D.F.ok scOne (fun vs H Q E h => ?_) (fun cdv A outer s H vs Q E hr h => ?_)
 ·obtain ⟨A', a, q, c, y, U, Ls, l, all, pre, post, cc, rfl, _⟩ := h
  rfl
 ·obtain ⟨A', a, q, c, y, U, Ls, l, all, pre, post, cc, rfl, ⟨et1, et2, et3⟩, of, d, rd, hc, hall, hsh, hask, hg, fit, k⟩ := h
  refine ⟨_, pss_cons (ps_set (i := 2) scOne.nd rfl (Or.inl rfl) (pe_meth0 (pv 1) TR.cl MNu.me GNu hr MNu.b .nil pass0))
   (pss_cons (ps_if (pt_cmpR op_eq (pv 2) (pe_gi O.k0) (nomark _)) (pss_one (ps_ret (pe_meth0 (pv 0) TD.cl MBg.me GBg hr MBg.b .nil pass0))) pss_nil)
   (pss_cons (ps_if (pt_cmpR op_eq (pv 2) (pe_gi O.k1) (nomark _)) (pss_one (ps_ret (pe_meth (pv 0) TD.cl MPu.me GPu hr MPu.b .nil pass0 (pa_cons (pe_meth0 (pv 1) TR.cl MLi.me GLi hr MLi.b .nil pass0) pa_nil)))) pss_nil)
   (pss_cons (ps_if (pt_cmpR op_eq (pv 2) (pe_gi O.k2) (nomark _)) (pss_one (ps_ret (pe_meth (pv 0) TD.cl MRo.me GRo hr MRo.b .nil pass0 (pa_cons (pe_meth0 (pv 1) TR.cl MNu.me GNu hr MNu.b .nil pass0) pa_nil)))) pss_nil)
   (pss_cons (ps_if (pt_cmpR op_eq (pv 2) (pe_gi O.k3) (nomark _)) (pss_one (ps_ret (pe_meth (pv 0) TD.cl MDa.me GDa hr MDa.b .nil pass0 (pa_cons (pe_meth0 (pv 1) TR.cl MNu.me GNu hr MNu.b .nil pass0) pa_nil)))) pss_nil)
   (pss_cons (ps_if (pt_cmpR op_eq (pv 2) (pe_gi O.k4) (nomark _)) (pss_one (ps_ret (pe_meth0 (pv 0) TD.cl MBa.me GBa hr MBa.b .nil pass0))) pss_nil)
   (pss_cons (ps_if (pt_cmpR op_eq (pv 2) (pe_gi O.k5) (nomark _)) (pss_one (ps_ret (pe_meth (pv 0) TD.cl MLo.me GLo hr MLo.b .nil pass0 (pa_cons (pe_meth0 (pv 1) TR.cl MNu.me GNu hr MNu.b .nil pass0) pa_nil)))) pss_nil)
   (pss_cons (ps_if (pt_cmpR op_eq (pv 2) (pe_gi O.k6) (nomark _)) (pss_cons (ps_set (i := 3) scOne.nd rfl (Or.inl rfl) (pe_meth0 (pv 1) TR.cl MNu.me GNu hr MNu.b .nil pass0)) (pss_one (ps_ret (pe_meth (pv 0) TD.cl MCo.me GCo hr MCo.b .nil pass0 (pa_cons (pv 3) (pa_cons (pe_meth0 (pv 1) TR.cl MNu.me GNu hr MNu.b .nil pass0) pa_nil)))))) pss_nil)
   (pss_cons (ps_if (pt_cmpR op_eq (pv 2) (pe_gi O.k7) (nomark _)) (pss_cons (ps_set (i := 3) scOne.nd rfl (Or.inl rfl) (pe_meth0 (pv 1) TR.cl MNu.me GNu hr MNu.b .nil pass0)) (pss_one (ps_ret (pe_meth (pv 0) TD.cl MAt.me GAt hr MAt.b .nil pass0 (pa_cons (pv 3) (pa_cons (pe_meth0 (pv 1) TR.cl MNu.me GNu hr MNu.b .nil pass0) pa_nil)))))) pss_nil)
   (pss_cons (ps_if (pt_cmpR op_eq (pv 2) (pe_gi O.k8) (nomark _)) (pss_one (ps_ret (pe_meth (pv 0) TD.cl MCu.me GCu hr MCu.b .nil pass0 (pa_cons (pe_meth0 (pv 1) TR.cl MNu.me GNu hr MNu.b .nil pass0) pa_nil)))) pss_nil)
   (pss_one ps_never)))))))))), ?_⟩
  obtain ⟨dq, hq⟩ := id rd
  have read : ∀ (z : Int) (tl : List Int), put1 cc = z :: tl -> ∀ (t : TS) (D : Ends), (∀ H1 dq1, H1 q = some (.ins CR dq1 (rf c (pre.length + 1))) -> Kept H H1 q -> DeskAt W A' H1 a y U Ls l -> SqL K H1 c (all.map V.int) -> t D [some (.ref A'.p), some (.ref q), some (.int z), none] H1) ->
    tSeq (tAsg (tMeth CR "read_number" (spNum K CR) [] E0 (tVar 1) tNil) (gName 2)) t D (L2.start ["desk", "reader", "number", "d"] [.ref A'.p, .ref q]) H := by
   intro z tl hz t D kt
   rw [hz] at hall
   refine ⟨_, rfl, q, dq, _, rfl, hq, rf_no _ _ (by decide +kernel) (by decide +kernel), q, c, pre.length, _, _, rfl, rd, hc, get_mid hall rfl, fun H1 rd1 k1 => ?_⟩
   obtain ⟨dq1, hq1⟩ := rd1
   exact kt H1 dq1 hq1 k1 (k1.desk d rd of) (k1.seq hq hc)
  cases hsh with
  | begin =>
   refine read 0 [] rfl _ _ fun H1 dq1 hq1 k1 d1 hc1 => ?_
   obtain ⟨dp1, hp1⟩ := id d1.ob
   refine ⟨_, rfl, rfl, _, rfl, numT rfl ?_⟩
   refine ⟨_, rfl, A'.p, dp1, _, rfl, hp1, df_no _ _ _ (by decide +kernel) (by decide +kernel) (by decide +kernel), A', a, y, U, Ls, l, rfl, d1, ?_⟩
   exact k.after k1 d1 ⟨dq1, hq1⟩ of
  | set r =>
   refine read 1 ((r.length : Int) :: (r ++ [])) rfl _ _ fun H1 dq1 hq1 k1 d1 hc1 => ?_
   obtain ⟨dp1, hp1⟩ := id d1.ob
   refine ⟨_, rfl, rfl, _, rfl, numF (by decide) ?_⟩
   refine ⟨_, rfl, rfl, _, rfl, numT rfl ?_⟩
   have e1 : all.map V.int = (pre ++ [1]).map V.int ++ V.int ((r.map V.int).length : Int) :: (r.map V.int ++ post.map V.int) := by
    rw [hall]
    show (pre ++ ((1 :: (r.length : Int) :: (r ++ [])) ++ post)).map V.int = _
    simp
   rw [e1] at hc1
   refine ⟨_, rfl, A'.p, dp1, _, rfl, hp1, df_no _ _ _ (by decide +kernel) (by decide +kernel) (by decide +kernel), _, rfl, q, dq1, _, rfl, hq1, rf_no _ _ (by decide +kernel) (by decide +kernel), q, c, _, _, _, rfl, ⟨dq1, by simpa using hq1⟩, hc1, fun t H2 ht h2 rd2 k2 => ?_⟩
   have d2 := k2.desk d1 ⟨dq1, hq1⟩ of
   refine ⟨A', a, t, y, U, Ls, l, r, rfl, d2, SqL.of h2, hask, ?_⟩
   refine k.after (k1.trans k2) d2 ?_ of
   obtain ⟨dq2, hq2⟩ := rd2
   refine ⟨dq2, ?_⟩
   rw [hq2]
   have : (List.map V.int (pre ++ [1])).length + 1 + (List.map V.int r).length = pre.length + (put1 [[1], r]).length := by
    show _ = pre.length + (1 :: (r.length : Int) :: (r ++ [])).length
    simp
    omega
   rw [this]
  | row x =>
   refine read 2 [x] rfl _ _ fun H1 dq1 hq1 k1 d1 hc1 => ?_
   obtain ⟨dp1, hp1⟩ := id d1.ob
   refine ⟨_, rfl, rfl, _, rfl, numF (by decide) ?_⟩
   refine ⟨_, rfl, rfl, _, rfl, numF (by decide) ?_⟩
   refine ⟨_, rfl, rfl, _, rfl, numT rfl ?_⟩
   refine ⟨_, rfl, A'.p, dp1, _, rfl, hp1, df_no _ _ _ (by decide +kernel) (by decide +kernel) (by decide +kernel), _, rfl, q, dq1, _, rfl, hq1, rf_no _ _ (by decide +kernel) (by decide +kernel), q, c, pre.length + 1, _, _, rfl, ⟨dq1, hq1⟩, hc1, get_mid (pre := pre ++ [2]) (z := x) (post := post) (by rw [hall]; simp [put1, putRows]) (by simp), fun H2 rd2 k2 => ?_⟩
   have d2 := k2.desk d1 ⟨dq1, hq1⟩ of
   exact ⟨A', a, y, U, Ls, l, x, rfl, d2, hg.le, k.after (k1.trans k2) d2 rd2 of⟩
  | days x =>
   refine read 3 [x] rfl _ _ fun H1 dq1 hq1 k1 d1 hc1 => ?_
   obtain ⟨dp1, hp1⟩ := id d1.ob
   refine ⟨_, rfl, rfl, _, rfl, numF (by decide) ?_⟩
   refine ⟨_, rfl, rfl, _, rfl, numF (by decide) ?_⟩
   refine ⟨_, rfl, rfl, _, rfl, numF (by decide) ?_⟩
   refine ⟨_, rfl, rfl, _, rfl, numT rfl ?_⟩
   refine ⟨_, rfl, A'.p, dp1, _, rfl, hp1, df_no _ _ _ (by decide +kernel) (by decide +kernel) (by decide +kernel), _, rfl, q, dq1, _, rfl, hq1, rf_no _ _ (by decide +kernel) (by decide +kernel), q, c, pre.length + 1, _, _, rfl, ⟨dq1, hq1⟩, hc1, get_mid (pre := pre ++ [3]) (z := x) (post := post) (by rw [hall]; simp [put1, putRows]) (by simp), fun H2 rd2 k2 => ?_⟩
   have d2 := k2.desk d1 ⟨dq1, hq1⟩ of
   exact ⟨A', a, y, U, Ls, l, x, rfl, d2, hg.le, k.after (k1.trans k2) d2 rd2 of⟩
  | back =>
   refine read 4 [] rfl _ _ fun H1 dq1 hq1 k1 d1 hc1 => ?_
   obtain ⟨dp1, hp1⟩ := id d1.ob
   refine ⟨_, rfl, rfl, _, rfl, numF (by decide) ?_⟩
   refine ⟨_, rfl, rfl, _, rfl, numF (by decide) ?_⟩
   refine ⟨_, rfl, rfl, _, rfl, numF (by decide) ?_⟩
   refine ⟨_, rfl, rfl, _, rfl, numF (by decide) ?_⟩
   refine ⟨_, rfl, rfl, _, rfl, numT rfl ?_⟩
   refine ⟨_, rfl, A'.p, dp1, _, rfl, hp1, df_no _ _ _ (by decide +kernel) (by decide +kernel) (by decide +kernel), A', a, y, U, Ls, l, rfl, d1, hg, ?_⟩
   exact k.after k1 d1 ⟨dq1, hq1⟩ of
  | long x =>
   refine read 5 [x] rfl _ _ fun H1 dq1 hq1 k1 d1 hc1 => ?_
   obtain ⟨dp1, hp1⟩ := id d1.ob
   refine ⟨_, rfl, rfl, _, rfl, numF (by decide) ?_⟩
   refine ⟨_, rfl, rfl, _, rfl, numF (by decide) ?_⟩
   refine ⟨_, rfl, rfl, _, rfl, numF (by decide) ?_⟩
   refine ⟨_, rfl, rfl, _, rfl, numF (by decide) ?_⟩
   refine ⟨_, rfl, rfl, _, rfl, numF (by decide) ?_⟩
   refine ⟨_, rfl, rfl, _, rfl, numT rfl ?_⟩
   refine ⟨_, rfl, A'.p, dp1, _, rfl, hp1, df_no _ _ _ (by decide +kernel) (by decide +kernel) (by decide +kernel), _, rfl, q, dq1, _, rfl, hq1, rf_no _ _ (by decide +kernel) (by decide +kernel), q, c, pre.length + 1, _, _, rfl, ⟨dq1, hq1⟩, hc1, get_mid (pre := pre ++ [5]) (z := x) (post := post) (by rw [hall]; simp [put1, putRows]) (by simp), fun H2 rd2 k2 => ?_⟩
   have d2 := k2.desk d1 ⟨dq1, hq1⟩ of
   exact ⟨A', a, y, U, Ls, l, x, rfl, et1, d2, fit, near_of hask, k.after (k1.trans k2) d2 rd2 of⟩
  | count x z =>
   refine read 6 [x, z] rfl _ _ fun H1 dq1 hq1 k1 d1 hc1 => ?_
   obtain ⟨dp1, hp1⟩ := id d1.ob
   refine ⟨_, rfl, rfl, _, rfl, numF (by decide) ?_⟩
   refine ⟨_, rfl, rfl, _, rfl, numF (by decide) ?_⟩
   refine ⟨_, rfl, rfl, _, rfl, numF (by decide) ?_⟩
   refine ⟨_, rfl, rfl, _, rfl, numF (by decide) ?_⟩
   refine ⟨_, rfl, rfl, _, rfl, numF (by decide) ?_⟩
   refine ⟨_, rfl, rfl, _, rfl, numF (by decide) ?_⟩
   refine ⟨_, rfl, rfl, _, rfl, numT rfl ?_⟩
   refine ⟨_, rfl, q, dq1, _, rfl, hq1, rf_no _ _ (by decide +kernel) (by decide +kernel), q, c, pre.length + 1, _, _, rfl, ⟨dq1, hq1⟩, hc1, get_mid (pre := pre ++ [6]) (z := x) (post := z :: post) (by rw [hall]; simp [put1, putRows]) (by simp), fun H2 rd2 k2 => ?_⟩
   have d2 := k2.desk d1 ⟨dq1, hq1⟩ of
   obtain ⟨dp2, hp2⟩ := id d2.ob
   obtain ⟨dq2, hq2⟩ := id rd2
   have hc2 := k2.seq hq1 hc1
   refine ⟨_, rfl, A'.p, dp2, _, rfl, hp2, df_no _ _ _ (by decide +kernel) (by decide +kernel) (by decide +kernel), _, rfl, _, rfl, q, dq2, _, rfl, hq2, rf_no _ _ (by decide +kernel) (by decide +kernel), q, c, pre.length + 1 + 1, _, _, rfl, rd2, hc2, get_mid (pre := pre ++ [6, x]) (z := z) (post := post) (by rw [hall]; simp [put1, putRows]) (by simp), fun H3 rd3 k3 => ?_⟩
   have d3 := k3.desk d2 rd2 of
   exact ⟨A', a, y, U, Ls, l, x, z, rfl, et2, d3, fit, near6 hask, k.after ((k1.trans k2).trans k3) d3 rd3 of⟩
  | at_ x z =>
   refine read 7 [x, z] rfl _ _ fun H1 dq1 hq1 k1 d1 hc1 => ?_
   obtain ⟨dp1, hp1⟩ := id d1.ob
   refine ⟨_, rfl, rfl, _, rfl, numF (by decide) ?_⟩
   refine ⟨_, rfl, rfl, _, rfl, numF (by decide) ?_⟩
   refine ⟨_, rfl, rfl, _, rfl, numF (by decide) ?_⟩
   refine ⟨_, rfl, rfl, _, rfl, numF (by decide) ?_⟩
   refine ⟨_, rfl, rfl, _, rfl, numF (by decide) ?_⟩
   refine ⟨_, rfl, rfl, _, rfl, numF (by decide) ?_⟩
   refine ⟨_, rfl, rfl, _, rfl, numF (by decide) ?_⟩
   refine ⟨_, rfl, rfl, _, rfl, numT rfl ?_⟩
   refine ⟨_, rfl, q, dq1, _, rfl, hq1, rf_no _ _ (by decide +kernel) (by decide +kernel), q, c, pre.length + 1, _, _, rfl, ⟨dq1, hq1⟩, hc1, get_mid (pre := pre ++ [7]) (z := x) (post := z :: post) (by rw [hall]; simp [put1, putRows]) (by simp), fun H2 rd2 k2 => ?_⟩
   have d2 := k2.desk d1 ⟨dq1, hq1⟩ of
   obtain ⟨dp2, hp2⟩ := id d2.ob
   obtain ⟨dq2, hq2⟩ := id rd2
   have hc2 := k2.seq hq1 hc1
   refine ⟨_, rfl, A'.p, dp2, _, rfl, hp2, df_no _ _ _ (by decide +kernel) (by decide +kernel) (by decide +kernel), _, rfl, _, rfl, q, dq2, _, rfl, hq2, rf_no _ _ (by decide +kernel) (by decide +kernel), q, c, pre.length + 1 + 1, _, _, rfl, rd2, hc2, get_mid (pre := pre ++ [7, x]) (z := z) (post := post) (by rw [hall]; simp [put1, putRows]) (by simp), fun H3 rd3 k3 => ?_⟩
   have d3 := k3.desk d2 rd2 of
   exact ⟨A', a, y, U, Ls, l, x, z, rfl, et3, d3, fit, (near7 hask).1, (near7 hask).2, k.after ((k1.trans k2).trans k3) d3 rd3 of⟩
  | cuts x =>
   refine read 8 [x] rfl _ _ fun H1 dq1 hq1 k1 d1 hc1 => ?_
   obtain ⟨dp1, hp1⟩ := id d1.ob
   refine ⟨_, rfl, rfl, _, rfl, numF (by decide) ?_⟩
   refine ⟨_, rfl, rfl, _, rfl, numF (by decide) ?_⟩
   refine ⟨_, rfl, rfl, _, rfl, numF (by decide) ?_⟩
   refine ⟨_, rfl, rfl, _, rfl, numF (by decide) ?_⟩
   refine ⟨_, rfl, rfl, _, rfl, numF (by decide) ?_⟩
   refine ⟨_, rfl, rfl, _, rfl, numF (by decide) ?_⟩
   refine ⟨_, rfl, rfl, _, rfl, numF (by decide) ?_⟩
   refine ⟨_, rfl, rfl, _, rfl, numF (by decide) ?_⟩
   refine ⟨_, rfl, rfl, _, rfl, numT rfl ?_⟩
   refine ⟨_, rfl, A'.p, dp1, _, rfl, hp1, df_no _ _ _ (by decide +kernel) (by decide +kernel) (by decide +kernel), _, rfl, q, dq1, _, rfl, hq1, rf_no _ _ (by decide +kernel) (by decide +kernel), q, c, pre.length + 1, _, _, rfl, ⟨dq1, hq1⟩, hc1, get_mid (pre := pre ++ [8]) (z := x) (post := post) (by rw [hall]; simp [put1, putRows]) (by simp), fun H2 rd2 k2 => ?_⟩
   have d2 := k2.desk d1 ⟨dq1, hq1⟩ of
   exact ⟨A', a, y, U, Ls, l, x, rfl, d2, fit, k.after (k1.trans k2) d2 rd2 of⟩
end
end RA
end
section
namespace RA
open Rc75 PyFlat
open Rc75Neutral hiding told row long
theorem runs_rep2 (a : Nat) : ∀ k : Nat, runs (List.replicate (k + 1) a) = [(k + 1, a)]
 | 0 => rfl
 | k + 1 => by
  show (match runs (List.replicate (k + 1) a) with | [] => [(1, a)] | (n, b) :: l => if a = b then (n + 1, b) :: l else (1, a) :: (n, b) :: l) = _
  rw [runs_rep2 a k]
  show (if a = a then [(k + 1 + 1, a)] else _) = _
  rw [if_pos rfl]
theorem said_aloud : ∀ (l t : Row), said l = some t -> aloud t = l
 | [], t, h => by
  cases h
  rfl
 | [_], t, h => by cases h
 | k :: a :: r, t, h => by
  have h' : (said r).bind (fun t => if k = 0 \/ t.head? = some a then none else some (List.replicate k a ++ t)) = some t := h
  cases e : said r with
  | none => rw [e] at h'; cases h'
  | some t' =>
   rw [e] at h'
   have h' : (if k = 0 \/ t'.head? = some a then none else some (List.replicate k a ++ t')) = some t := h'
   by_cases c : k = 0 \/ t'.head? = some a
   ·rw [if_pos c] at h'; cases h'
   ·rw [if_neg c] at h'
    cases h'
    obtain ⟨n, rfl⟩ : ∃ n, k = n + 1 := ⟨k - 1, by omega⟩
    have ap : Apart (List.replicate (n + 1) a) t' := fun x hx z => by
     rw [List.getLast?_replicate, if_neg (by omega)] at hx
     cases hx
     exact c (.inr z)
    rw [aloud_append ap, said_aloud r t' e]
    show fl (runs (List.replicate (n + 1) a)) ++ r = _
    rw [runs_rep2]
    rfl
theorem fl_inj : ∀ {p q : List (Nat × Nat)}, fl p = fl q -> p = q
 | [], [], _ => rfl
 | [], (_, _) :: _, h => by cases h
 | (_, _) :: _, [], h => by cases h
 | (a, b) :: p, (c, d) :: q, h => by
  rw [fl_cons, fl_cons] at h
  injection h with h1 h
  injection h with h2 h
  rw [h1, h2, fl_inj h]
theorem aloud_inj {u v : Row} (h : aloud u = aloud v) : u = v := by
 have := congrArg unr (fl_inj (show fl (runs u) = fl (runs v) from h))
 rwa [unr_runs, unr_runs] at this
def segs (l : Row) (n : Nat) : List Nat -> Nat -> List Row
 | [], a => [(l.drop a).take (n - a)]
 | c :: cs, a => (l.drop a).take (c - a) :: segs l n cs c
theorem zip_segs (l : Row) (n : Nat) : ∀ (cs : List Nat) (a : Nat), ((a :: cs).zip (cs ++ [n])).map (fun x => (l.drop x.1).take (x.2 - x.1)) = segs l n cs a
 | [], a => rfl
 | c :: cs, a => by
  rw [zip_map]
  show _ :: ((c :: cs).zip (cs ++ [n])).map (fun x => (l.drop x.1).take (x.2 - x.1)) = _
  rw [zip_segs l n cs c]
  rfl
theorem partsOf_segs (l : Row) : partsOf l = segs l l.length (cutsOf l) 0 := zip_segs l l.length (cutsOf l) 0
theorem segs_shift (u v : Row) : ∀ (ds : List Nat) (b : Nat), segs (u ++ v) (u.length + v.length) (ds.map (u.length + ·)) (u.length + b) = segs v v.length ds b
 | [], b => by
  show [((u ++ v).drop (u.length + b)).take (u.length + v.length - (u.length + b))] = [(v.drop b).take (v.length - b)]
  rw [List.drop_append, List.drop_of_length_le (Nat.le_add_right _ _), List.nil_append, show u.length + b - u.length = b from by omega, show u.length + v.length - (u.length + b) = v.length - b from by omega]
 | d :: ds, b => by
  show ((u ++ v).drop (u.length + b)).take (u.length + d - (u.length + b)) :: segs (u ++ v) (u.length + v.length) (ds.map (u.length + ·)) (u.length + d) = (v.drop b).take (d - b) :: segs v v.length ds d
  rw [segs_shift u v ds d, List.drop_append, List.drop_of_length_le (Nat.le_add_right _ _), List.nil_append, show u.length + b - u.length = b from by omega, show u.length + d - (u.length + b) = d - b from by omega]
theorem take_in (u v : Row) (a c : Nat) (h : a <= u.length) (hc : c <= u.length) : ((u ++ v).drop a).take (c - a) = (u.drop a).take (c - a) := by
 rw [List.drop_append_of_le_length h, List.take_append_of_le_length (by rw [List.length_drop]; omega)]
theorem segs_app (u v : Row) (ds : List Nat) : ∀ (cs : List Nat) (a : Nat), (∀ c ∈ cs, c <= u.length) -> a <= u.length -> segs (u ++ v) (u.length + v.length) (cs ++ u.length :: ds.map (u.length + ·)) a = segs u u.length cs a ++ segs v v.length ds 0
 | [], a, _, ha => by
  show ((u ++ v).drop a).take (u.length - a) :: segs (u ++ v) (u.length + v.length) (ds.map (u.length + ·)) (u.length + 0) = (u.drop a).take (u.length - a) :: segs v v.length ds 0
  rw [segs_shift, take_in u v a u.length ha (Nat.le_refl _)]
 | c :: cs, a, hc, ha => by
  have h := hc c (by simp)
  show ((u ++ v).drop a).take (c - a) :: segs (u ++ v) (u.length + v.length) (cs ++ u.length :: ds.map (u.length + ·)) c = (u.drop a).take (c - a) :: (segs u u.length cs c ++ segs v v.length ds 0)
  rw [segs_app u v ds cs c (fun x hx => hc x (by simp [hx])) h, take_in u v a c ha h]
theorem drop_never {u v : Row} (hu : u ≠ []) (h : Never u v) {c : Nat} (hc : c < u.length) : Never (u.drop c) v := by
 have hne : u.drop c ≠ [] := fun z => by
  have := congrArg List.length z
  rw [List.length_drop] at this
  simp only [List.length_nil] at this
  omega
 refine (never_iff hne).mpr fun n => ?_
 rw [List.getLast?_drop, if_neg (by omega)]
 exact (never_iff hu).mp h n
theorem head_never {u v : Row} (hu : u ≠ []) (h : Never u v) (n : Nat) : (later n (u ++ v)).head? = (later n u).head? := by
 rw [h n]
 cases e : later n u with
 | nil => exact absurd e (later_ne hu n)
 | cons a b => rfl
theorem apartBy_app {w u v : Row} (hu : u ≠ []) (h : Never u v) : apartBy w (u ++ v) = apartBy w u := by
 unfold apartBy
 congr 1
 funext n
 rw [head_never hu h n]
theorem cutP_left {u v : Row} (hu : u ≠ []) (h : Never u v) {c : Nat} (hc : c < u.length) : cutP (u ++ v) c = cutP u c := by
 unfold cutP
 rw [List.take_append_of_le_length (by omega), List.drop_append_of_le_length (by omega), apartBy_app (fun z => by
  have := congrArg List.length z
  rw [List.length_drop] at this
  simp only [List.length_nil] at this
  omega) (drop_never hu h hc)]
theorem cutP_right {u v : Row} {c : Nat} (h0 : 0 < c) (hc : c < v.length) : cutP (u ++ v) (u.length + c) = cutP v c := by
 unfold cutP
 have e1 : (u ++ v).drop (u.length + c) = v.drop c := by
  rw [List.drop_append, List.drop_of_length_le (Nat.le_add_right _ _), List.nil_append, show u.length + c - u.length = c from by omega]
 have e2 : ((u ++ v).take (u.length + c)).getLast? = (v.take c).getLast? := by
  rw [List.getLast?_take, List.getLast?_take, if_neg (by omega), if_neg (by omega), List.getElem?_append_right (by omega), show u.length + c - 1 - u.length = c - 1 from by omega]
  have h1 : c - 1 < v.length := by omega
  rw [List.getElem?_eq_getElem h1]
  rfl
 have e3 : apartBy ((u ++ v).take (u.length + c)) ((u ++ v).drop (u.length + c)) = apartBy (v.take c) (v.drop c) := by
  unfold apartBy
  rw [e1, e2]
 rw [e3, decide_eq_true h0, decide_eq_true (show 0 < u.length + c by omega)]
theorem cuts_append {u v : Row} (hu : u ≠ []) (hv : v ≠ []) (hp : Plain v) (h : Never u v) : cutsOf (u ++ v) = cutsOf u ++ u.length :: (cutsOf v).map (u.length + ·) := by
 rw [cutsOf_eq, cutsOf_eq, cutsOf_eq, List.length_append, List.range_add, List.filter_append]
 congr 1
 ·exact List.filter_congr fun c hc => cutP_left hu h (by simpa using hc)
 ·obtain ⟨m, hm⟩ : ∃ m, v.length = m + 1 := ⟨v.length - 1, by
   have : v.length ≠ 0 := fun z => hv (List.eq_nil_of_length_eq_zero z)
   omega⟩
  have ev : (List.range v.length).filter (cutP v) = ((List.range m).map Nat.succ).filter (cutP v) := by
   rw [hm, List.range_succ_eq_map, List.filter_cons, if_neg (by show ¬ (cutP v 0 = true); intro z; cases z)]
  rw [ev, List.filter_map, hm, List.range_succ_eq_map, List.filter_cons]
  have h0 : (cutP (u ++ v) ∘ fun x => u.length + x) 0 = true := by
   show cutP (u ++ v) (u.length + 0) = true
   have hl : 0 < u.length := by
    have : u.length ≠ 0 := fun z => hu (List.eq_nil_of_length_eq_zero z)
    omega
   unfold cutP
   rw [Nat.add_zero, List.take_left, List.drop_left, decide_eq_true hl, (apartBy_iff hu hv hp).mpr h]
   rfl
  rw [if_pos h0, List.map_cons, Nat.add_zero]
  congr 2
  exact List.filter_congr fun c hc => by
   obtain ⟨d, hd, rfl⟩ := List.mem_map.mp hc
   have hd : d < m := by simpa using hd
   exact cutP_right (Nat.succ_pos _) (by omega)
theorem parts_append {u v : Row} (hu : u ≠ []) (hv : v ≠ []) (hp : Plain v) (h : Never u v) : partsOf (u ++ v) = partsOf u ++ partsOf v := by
 rw [partsOf_segs, partsOf_segs, partsOf_segs, cuts_append hu hv hp h, List.length_append]
 exact segs_app u v _ _ 0 (fun c hc => Nat.le_of_lt (cuts_lt hc).2) (Nat.zero_le _)
theorem parts_next {l : Row} (hp : Plain l) : ∀ (cs : List Nat) (a : Nat), (a :: cs).Pairwise (· < ·) -> (∀ c ∈ cs, c < l.length /\ cutP l c = true) -> a <= l.length -> partsOf (aloud (l.drop a)) = (segs l l.length cs a).flatMap fun p => partsOf (aloud p)
 | [], a, _, _, ha => by
  show _ = [(l.drop a).take (l.length - a)].flatMap fun p => partsOf (aloud p)
  rw [List.take_of_length_le (by rw [List.length_drop]; exact Nat.le_refl _), List.flatMap_cons, List.flatMap_nil, List.append_nil]
 | c :: cs, a, hs, hc, ha => by
  rw [List.pairwise_cons] at hs
  have hac : a < c := hs.1 c (by simp)
  obtain ⟨hcl, hcc⟩ := hc c (by simp)
  have ih := parts_next hp cs c hs.2 (fun x hx => hc x (by simp [hx])) (by omega)
  obtain ⟨h1, h2⟩ := never_from hac hcl hp hcc
  have e : l.drop a = (l.drop a).take (c - a) ++ l.drop c := by
   have := List.take_append_drop (c - a) (l.drop a)
   rw [List.drop_drop, show a + (c - a) = c from by omega] at this
   exact this.symm
  have hv : l.drop c ≠ [] := fun z => by
   have := congrArg List.length z
   rw [List.length_drop] at this
   simp only [List.length_nil] at this
   omega
  show _ = ((l.drop a).take (c - a) :: segs l l.length cs c).flatMap fun p => partsOf (aloud p)
  rw [List.flatMap_cons, <- ih]
  have e1 : aloud (l.drop a) = aloud ((l.drop a).take (c - a)) ++ aloud (l.drop c) := by
   have := h1 1
   rw [<- e] at this
   exact this
  rw [e1]
  refine parts_append (aloud_ne h2) (aloud_ne hv) (hp.drop c).aloud fun n => ?_
  have := h1 (n + 1)
  rw [<- e] at this
  rw [<- e1]
  exact this
theorem parts_aloud {l : Row} (hp : Plain l) : partsOf (aloud l) = (partsOf l).flatMap fun p => partsOf (aloud p) := by
 have hs : (0 :: cutsOf l).Pairwise (· < ·) := by
  rw [List.pairwise_cons]
  refine ⟨fun c hc => (cuts_lt hc).1, ?_⟩
  rw [cutsOf_eq]
  exact List.Pairwise.filter _ List.pairwise_lt_range
 have := parts_next hp (cutsOf l) 0 hs (fun c hc => ?_) (Nat.zero_le _)
 ·rw [List.drop_zero, <- partsOf_segs] at this
  exact this
 ·refine ⟨(cuts_lt hc).2, ?_⟩
  rw [cutsOf_eq] at hc
  exact (List.mem_filter.mp hc).2
theorem parts_days {l : Row} (hp : Plain l) : ∀ k, dayParts k (partsOf l) = partsOf (later k l)
 | 0 => rfl
 | k + 1 => by rw [dayParts_succ, parts_days hp k, later_succ, parts_aloud (hp.later k)]
def longs (r : Row) : List Row := (partsOf r).filter fun p => decide (5 <= p.length)
theorem longs_few {r : Row} (hp : Plain r) : 5 * (longs r).length <= r.length := by
 have e : r = (partsOf r).flatMap fun p => p := (spl_parts hp).rows 0
 have e2 : r.length = ((partsOf r).map List.length).sum := by
  conv => lhs; rw [e]
  rw [List.length_flatMap]
 rw [e2]
 unfold longs
 generalize partsOf r = ps
 induction ps with
 | nil => exact Nat.le_refl _
 | cons p ps ih =>
  rw [List.filter_cons, List.map_cons, List.sum_cons]
  by_cases h : 5 <= p.length
  ·rw [if_pos (decide_eq_true h), List.length_cons]
   omega
  ·rw [if_neg (by rw [decide_eq_false h]; decide)]
   omega
def chU (b : Row) (n : Nat) : List Row := (List.range (n + 1)).flatMap fun j => longs (later j b)
theorem mem_chU {b : Row} {n : Nat} {p : Row} : p ∈ chU b n ↔ ∃ j, j <= n /\ p ∈ longs (later j b) := by
 unfold chU
 rw [List.mem_flatMap]
 constructor
 ·rintro ⟨j, hj, hp⟩
  exact ⟨j, by simp at hj; omega, hp⟩
 ·rintro ⟨j, hj, hp⟩
  exact ⟨j, by simp; omega, hp⟩
theorem chU_few {b : Row} (hp : Plain b) (n : Nat) : 5 * (chU b n).length <= ((List.range (n + 1)).map fun j => (later j b).length).sum := by
 unfold chU
 rw [List.length_flatMap]
 generalize List.range (n + 1) = js
 induction js with
 | nil => exact Nat.le_refl _
 | cons j js ih =>
  rw [List.map_cons, List.sum_cons, List.map_cons, List.sum_cons]
  have := longs_few (hp.later j)
  omega
theorem bnd_sum {s : Row} {o : Nat} (hp : Plain s) (h40 : s.length <= 40) (ho : ∀ i, i <= o -> (later i s).length <= 65536) : ∀ k, k < 40 -> ((List.range (k + 1)).map fun j => (later j s).length).sum <= (bnd o k).sum
 | 0, _ => by
  show s.length + 0 <= 40 + 0
  omega
 | k + 1, hk => by
  have ih := bnd_sum hp h40 ho k (by omega)
  have h0 := bnd_ok hp h40 ho (k + 1) hk 0 (Nat.zero_le _)
  rw [List.range_succ, List.map_append, List.sum_append]
  show _ + ((later (k + 1) s).length + 0) <= _
  have e : (bnd o (k + 1)).sum = (bnd o (k + 1)).getD 0 0 + (bnd o k).sum := rfl
  rw [e]
  rw [Nat.sub_zero] at h0
  omega
theorem bnd_tab : ((List.range 21).all fun o => Nat.ble (bnd o (o + 15)).sum (151054 + 3140000 * o)) = true := by decide +kernel
theorem chain_sum {b : Row} {m om : Nat} (hp : Plain b) (h40 : (later m b).length <= 40) (h20 : om <= 20) (ho : ∀ i, i <= m + om -> (later i b).length <= 65536) : ((List.range (m + om + 15 + 1)).map fun j => (later j b).length).sum <= 65536 * m + (151054 + 3140000 * om) := by
 rw [show m + om + 15 + 1 = m + (om + 15 + 1) from by omega, List.range_add, List.map_append, List.sum_append, List.map_map]
 have h1 : ((List.range m).map fun j => (later j b).length).sum <= 65536 * m := by
  have : ∀ n, n <= m -> ((List.range n).map fun j => (later j b).length).sum <= 65536 * n := by
   intro n
   induction n with
   | zero => intro _; exact Nat.le_refl _
   | succ n ih =>
    intro hn
    have := ih (by omega)
    have := ho n (by omega)
    rw [List.range_succ, List.map_append, List.sum_append]
    show _ + ((later n b).length + 0) <= _
    omega
  exact this m (Nat.le_refl _)
 have h2 := bnd_sum (hp.later m) h40 (o := om) (fun i hi => by rw [<- later_add]; exact ho _ (by omega)) (om + 15) (by omega)
 have h3 := Nat.le_of_ble_eq_true (List.all_eq_true.mp bnd_tab om (by simp; omega))
 have e : ((List.range (om + 15 + 1)).map ((fun j => (later j b).length) ∘ fun x => m + x)) = (List.range (om + 15 + 1)).map fun j => (later j (later m b)).length := by
  refine List.map_congr_left fun j _ => ?_
  show (later (m + j) b).length = _
  rw [later_add]
 rw [e]
 omega
theorem later_pow {s : Row} (h : s.length <= 40) : ∀ j, (later j s).length <= 40 * 2 ^ j
 | 0 => by show s.length <= 40 * 1; omega
 | j + 1 => by
  have h1 := later_twice j s
  have h2 := later_pow h j
  rw [Nat.pow_succ]
  omega
structure Gh (k a : Nat) (l : Row) (U : List Row) : Prop where
 ex : ∃ (b : Row) (m om o : Nat) (V : List Row), Plain b /\ (later m b).length <= 40 /\ (∀ i, i <= m + om -> (later i b).length <= 65536) /\ l = later o b /\ o <= m + om /\ om <= a /\ U = V ++ chU b (m + om + 15) /\ 5 * V.length + 151054 + 3140000 * om + 65536 * m <= 151054 * (k + 1) + 3140000 * a + 65536 * k
theorem Gh.new : Gh 0 0 [] (chU [] 15) := ⟨[], 0, 0, 0, [], Plain.nil, by decide, fun i _ => by rw [later_nil]; decide, rfl, Nat.le_refl _, Nat.le_refl _, rfl, by decide⟩
theorem Gh.fives {k a : Nat} {l : Row} {U : List Row} (g : Gh k a l U) (ha : a <= 20) : 5 * U.length <= 151054 * (k + 1) + 3140000 * a + 65536 * k := by
 obtain ⟨b, m, om, o, V, h1, h2, h3, h4, h5, h6, rfl, h8⟩ := g.ex
 have c1 := chU_few h1 (m + om + 15)
 have c2 := chain_sum h1 h2 (by omega) h3
 rw [List.length_append]
 omega
theorem Gh.few {k a : Nat} {l : Row} {U : List Row} (g : Gh k a l U) (hk : k <= 20) (ha : a <= 20) : U.length <= UMax := by
 have := g.fives ha
 have : UMax = 16000000 := rfl
 omega
theorem addR_old {b : Row} (hp : Plain b) {i : Nat} (hi : 5 <= i) : addR (later i b) = 0 := by
 unfold addR
 rw [if_pos (by have := OldR.of hp (i - 5); rwa [show 5 + (i - 5) = i from by omega] at this)]
theorem addR_le (l : Row) : addR l <= (runs l).length := by
 unfold addR
 split <;> omega
theorem Gh.young {k a : Nat} {l : Row} {U : List Row} (g : Gh k a l U) (j : Nat) : addR (later j l) <= 32768 := by
 obtain ⟨b, m, om, o, V, h1, h2, h3, rfl, h5, h6, rfl, h8⟩ := g.ex
 rw [<- later_add]
 by_cases h : 5 <= o + j
 ·rw [addR_old h1 h]; omega
 ·have q := addR_le (later (o + j) b)
  by_cases hm : o + j < m
  ·have h9 := h3 (o + j + 1) (by omega)
   rw [later_succ, aloud_length] at h9
   omega
  ·have h9 := later_pow h2 (o + j - m)
   rw [<- later_add, show m + (o + j - m) = o + j from by omega] at h9
   have h10 := runs_length_le (later (o + j) b)
   have : 2 ^ (o + j - m) <= 2 ^ 4 := Nat.pow_le_pow_right (by decide) (by omega)
   have : (2 : Nat) ^ 4 = 16 := by decide
   omega
theorem Gh.plain {k a : Nat} {l : Row} {U : List Row} (g : Gh k a l U) : Plain l := by
 obtain ⟨b, m, om, o, V, h1, h2, h3, rfl, _⟩ := g.ex
 exact h1.later o
theorem Gh.addD {k a : Nat} {l : Row} {U : List Row} (g : Gh k a l U) : ∀ n, RA.addD l n <= 32768 * min n 4
 | 0 => Nat.zero_le _
 | n + 1 => by
  have ih := g.addD n
  show RA.addD l n + addR (later (n + 1) l) <= _
  by_cases h : 5 <= n + 1
  ·rw [addR_old g.plain h]
   omega
  ·have := g.young (n + 1)
   omega
theorem Gh.fit {k a : Nat} {l : Row} {U : List Row} (g : Gh k a l U) (hk : k <= 19) (ha : a <= 20) : Fit l U (YC * k) := by
 have y0 : YC = 425984 := rfl
 have y1 : YMax = 9500000 := rfl
 have c0 : ∀ n, addR l + 3 * RA.addD l n <= YC := fun n => by
  have h1 := g.young 0
  have h1 : addR l <= 32768 := h1
  have h2 := g.addD n
  omega
 have hroom : YC * k + YC <= YMax := by rw [y0, y1]; omega
 refine ⟨fun n hn => ?_, fun n _ => c0 n, hroom⟩
 have few := g.few (by omega) ha
 have pl := g.plain
 obtain ⟨b, m, om, o, V, h1, h2, h3, h4, h5, h6, h7, h8⟩ := g.ex
 refine ⟨pl, hn, fun j hj => ?_, fun j hj p hp => ?_, few, by have := c0 n; omega⟩
 ·rw [h4, <- later_add]
  by_cases hm : o + j <= m + om
  ·have := h3 _ hm
   omega
  ·have := small15 (h1.later m) h2 (o := om) (by omega) (fun i hi => by rw [<- later_add]; exact h3 _ (by omega)) (o + j - m - om) (by omega)
   rw [<- later_add, show m + (om + (o + j - m - om)) = o + j from by omega] at this
   exact this
 ·rw [parts_days pl, h4, <- later_add] at hp
  by_cases h : p.length <= 4
  ·exact .inl h
  ·right
   rw [h7, List.mem_append]
   exact .inr (mem_chU.mpr ⟨o + j, by omega, List.mem_filter.mpr ⟨hp, decide_eq_true (by omega)⟩⟩)
theorem Gh.stay {k a : Nat} {l : Row} {U : List Row} (g : Gh k a l U) : Gh (k + 1) a l U := by
 obtain ⟨b, m, om, o, V, h1, h2, h3, h4, h5, h6, h7, h8⟩ := g.ex
 exact ⟨b, m, om, o, V, h1, h2, h3, h4, h5, h6, h7, by omega⟩
theorem Gh.wait {k a c : Nat} {l : Row} {U : List Row} (g : Gh k a l U) (h : a <= c) : Gh k c l U := by
 obtain ⟨b, m, om, o, V, h1, h2, h3, h4, h5, h6, h7, h8⟩ := g.ex
 exact ⟨b, m, om, o, V, h1, h2, h3, h4, h5, by omega, h7, by omega⟩
theorem Gh.set {k a : Nat} {l t : Row} {U : List Row} (g : Gh k a l U) (ha : a <= 20) (hp : Plain t) (h40 : t.length <= 40) : Gh (k + 1) a t (U ++ chU t 15) := by
 have := g.fives ha
 exact ⟨t, 0, 0, 0, U, hp, h40, fun i hi => by rw [show i = 0 from by omega]; show t.length <= _; omega, rfl, Nat.le_refl _, Nat.zero_le _, rfl, by omega⟩
theorem Gh.days {k a d : Nat} {l : Row} {U : List Row} (g : Gh k a l U) (h : ∀ j, j <= d -> (later j l).length <= 65536) : ∃ U', Gh (k + 1) (a + d) (later d l) U' /\ ∀ p, p ∈ U -> p ∈ U' := by
 obtain ⟨b, m, om, o, V, h1, h2, h3, h4, h5, h6, h7, h8⟩ := g.ex
 by_cases hm : o + d <= m + om
 ·exact ⟨U, ⟨b, m, om, o + d, V, h1, h2, h3, by rw [h4, <- later_add], hm, by omega, h7, by omega⟩, fun _ q => q⟩
 ·refine ⟨V ++ chU b (m + (o + d - m) + 15), ⟨b, m, o + d - m, o + d, V, h1, h2, fun i hi => ?_, by rw [h4, <- later_add], by omega, by omega, rfl, by omega⟩, fun p hp => ?_⟩
  ·by_cases hi2 : i <= m + om
   ·exact h3 i hi2
   ·have := h (i - o) (by omega)
    rw [h4, <- later_add, show o + (i - o) = i from by omega] at this
    exact this
  ·rw [h7, List.mem_append] at hp
   rw [List.mem_append]
   refine hp.imp id fun q => ?_
   obtain ⟨j, hj, q⟩ := mem_chU.mp q
   exact mem_chU.mpr ⟨j, by omega, q⟩
theorem Gh.back {k a : Nat} {l t : Row} {U : List Row} (g : Gh k a l U) (hs : said l = some t) (hp : Plain t) (hl : t.length <= 65536) : ∃ U', Gh (k + 1) a t U' /\ ∀ p, p ∈ U -> p ∈ U' := by
 have ea := said_aloud l t hs
 obtain ⟨b, m, om, o, V, h1, h2, h3, h4, h5, h6, h7, h8⟩ := g.ex
 cases o with
 | zero =>
  have h4 : l = b := h4
  have el : ∀ j, later (j + 1) t = later j b := fun j => by
   show later j (aloud t) = _
   rw [ea, h4]
  refine ⟨V ++ chU t (m + 1 + om + 15), ⟨t, m + 1, om, 0, V, hp, by rw [el]; exact h2, fun i hi => ?_, rfl, Nat.zero_le _, h6, rfl, by omega⟩, fun p hp' => ?_⟩
  ·cases i with
   | zero => exact hl
   | succ i => rw [el]; exact h3 i (by omega)
  ·rw [h7, List.mem_append] at hp'
   rw [List.mem_append]
   refine hp'.imp id fun q => ?_
   obtain ⟨j, hj, q⟩ := mem_chU.mp q
   exact mem_chU.mpr ⟨j + 1, by omega, by rw [el]; exact q⟩
 | succ o =>
  have : t = later o b := aloud_inj (by rw [ea, h4, later_succ])
  exact ⟨U, ⟨b, m, om, o, V, h1, h2, h3, this, by omega, h6, h7, by omega⟩, fun _ q => q⟩
def aN (c : List (List Int)) : Nat := (ahead (PyRc75.whole c)).toNat
theorem ahead_nn (c : List (List Int)) : 0 <= ahead c := by
 unfold ahead
 split
 ·split <;> omega
 ·omega
theorem gh_step {k a : Nat} {s : S} {U : List Row} {c : List (List Int)} (g : Gh k a s.row U) (hg : Good s.row) (ha : a <= 20) (hc : Shape c) (hask : asked1 (PyRc75.whole c) = true) : ∃ U', Gh (k + 1) (a + aN c) (step s (PyRc75.whole c)).1.row U' /\ ∀ p, p ∈ U -> p ∈ U' := by
 have same : ∃ U', Gh (k + 1) (a + aN c) s.row U' /\ ∀ p, p ∈ U -> p ∈ U' := ⟨U, g.stay.wait (Nat.le_add_right _ _), fun _ q => q⟩
 have put : ∀ t : Row, Plain t -> t.length <= 40 -> ∃ U', Gh (k + 1) (a + aN c) t U' /\ ∀ p, p ∈ U -> p ∈ U' := fun t hp h40 => ⟨_, (g.set ha hp h40).wait (Nat.le_add_right _ _), fun p q => List.mem_append_left _ q⟩
 cases hc with
 | begin => exact put [] Plain.nil (Nat.zero_le _)
 | set r =>
  show ∃ U', Gh _ _ (step s [[1, (r.length : Int)], r]).1.row U' /\ _
  have hl := whole_set_len hask
  rw [step_set]
  by_cases h : (r.length : Int) < 1 \/ 256 < (r.length : Int) \/ plain (natsOf r) = false
  ·rw [if_pos h]; exact same
  ·rw [if_neg h]
   refine put (natsOf r) ((plain_iff _).mp ?_) ?_
   ·cases e : plain (natsOf r) with
    | true => rfl
    | false => exact absurd (.inr (.inr e)) h
   ·simp [natsOf]; omega
 | row x =>
  show ∃ U', Gh _ _ (step s [[2, x]]).1.row U' /\ _
  rw [step_row]; split <;> exact same
 | days d =>
  show ∃ U', Gh _ _ (step s [[3, d]]).1.row U' /\ _
  have hd : d <= 15 \/ 120 < d := near_of hask
  rw [step_days]
  by_cases h : isDays d = false
  ·rw [if_pos h]; exact same
  ·rw [if_neg h]
   cases h2 : ((List.range (d.toNat + 1)).all fun (k : Nat) => decide ((later k s.row).length <= 65536)) with
   | false => rw [if_pos rfl]; exact same
   | true =>
    rw [if_neg (by decide)]
    have hx := go_yes (x := d) (by cases e : isDays d with | true => rfl | false => exact absurd e h)
    have e : aN [[3, d]] = d.toNat := by
     show (if 0 <= d /\ d <= 15 then d else 0).toNat = _
     rw [if_pos ⟨hx.1, by omega⟩]
    rw [e]
    exact g.days fun j hj => of_decide_eq_true (List.all_eq_true.mp h2 j (by simp; omega))
 | back =>
  show ∃ U', Gh _ _ (step s [[4]]).1.row U' /\ _
  rw [step_back]
  cases e : said s.row with
  | none => exact same
  | some t =>
   dsimp only
   by_cases h : t.length <= 65536
   ·rw [if_pos h]
    obtain ⟨U', g', hU⟩ := g.back e (said_plain _ _ hg.pl.1 e) h
    exact ⟨U', g'.wait (Nat.le_add_right _ _), hU⟩
   ·rw [if_neg h]; exact same
 | long d =>
  show ∃ U', Gh _ _ (step s [[5, d]]).1.row U' /\ _
  rw [step_long]; split <;> exact same
 | count d z =>
  show ∃ U', Gh _ _ (step s [[6, d, z]]).1.row U' /\ _
  rw [step_count]; split <;> exact same
 | at_ d i =>
  show ∃ U', Gh _ _ (step s [[7, d, i]]).1.row U' /\ _
  rw [step_at]; split
  ·exact same
  ·split <;> exact same
 | cuts x =>
  show ∃ U', Gh _ _ (step s [[8, x]]).1.row U' /\ _
  rw [step_cuts]; split <;> exact same
def ahs (cs : List (List (List Int))) : Nat := (cs.map aN).sum
theorem ahs_append (a b : List (List (List Int))) : ahs (a ++ b) = ahs a + ahs b := by unfold ahs; rw [List.map_append, List.sum_append]
theorem ahs_le : ∀ cs : List (List (List Int)), (ahs cs : Int) = ((cs.map PyRc75.whole).map ahead).sum
 | [] => rfl
 | c :: cs => by
  have h1 := ahs_le cs
  have h2 := ahead_nn (PyRc75.whole c)
  rw [List.map_cons, List.map_cons, List.sum_cons, <- h1]
  show ((((ahead (PyRc75.whole c)).toNat + ahs cs : Nat)) : Int) = _
  omega
end RA
end
section
namespace RA
open PySem L2
open Rc75 (Row)
open Rc75Neutral (step asked1 natsOf start)
open PyFlat (put put1 putRow putRows told played)
def KeepT (H H' : Hp) : Prop := ∀ b o, H b = some o -> (∀ ps, o ≠ .tbl ps) -> H' b = some o
theorem KeepT.seq {K : PySem.W.Frag} {H H' : Hp} {c : Addr} {xs : List V} (k : KeepT H H') (h : SqL K H c xs) : SqL K H' c xs := by
 rcases h with (h | ⟨o, h⟩) | h
 ·exact .inl (.inl (k _ _ h (by intro _ z; cases z)))
 ·exact .inl (.inr ⟨o, k _ _ h (by intro _ z; cases z)⟩)
 ·exact .inr h
def Tabs (H : Hp) (t1 t2 t3 : Addr) : Prop := TabV H t1 (lamPos lamLen) lenQual /\ TabV H t2 (lamPos lamOften) oftenQual /\ TabV H t3 (lamPos lamDigit) digitQual /\ (t1 ≠ t2 /\ t1 ≠ t3 /\ t2 ≠ t3)
def spAnswers (K : PySem.W.Frag) (t1 t2 t3 : Addr) : Sp := fun vs H Q _ => ∃ (c : Addr) (ns : List Int) (cs : List (List (List Int))), vs = [.ref c] /\ SqL K H c (ns.map V.int) /\ Line ns cs /\ Tabs H t1 t2 t3 /\
 ∀ (r : Addr) (H' : Hp), H' r = some (.lst ((PyRc75.answers ns).map V.int)) -> Q (.ref r) H'
section
variable {W : Wd} {K : PySem.W.Frag} {mg : Str -> Option Value} {base : Heap}
theorem scAnswers : FnScope ["calls", "desk", "reader", "told", "answer"] ["calls"] (defScope sAnswers) := ⟨rfl, rfl, rfl, by decide +kernel, rfl, by decide +kernel, by decide +kernel⟩
theorem ok_answers {f CR t1 t2 t3 fDI fRI fMo fOn : Addr} {fd fdDI fdRI fdMo fdOn : FuncData} (D : Def K mg "answers" sAnswers f fd ["calls"]) (TD : DTxt K mg W.CD) (TR : RTxt K mg CR) (TT : Txt K mg)
  (MkD : Mk K W.CD fDI) (bDI : Binds K fdDI ["self"] []) (GDI : FnOk W.P W.w K mg base CX0 12 fDI fdDI ["self"] (spDInit W t1 t2 t3))
  (MkR : Mk K CR fRI) (bRI : Binds K fdRI ["self", "numbers"] []) (GRI : FnOk W.P W.w K mg base CX0 12 fRI fdRI ["self", "numbers"] (spRInit CR))
  (MMo : MDef K CR "has_more" "Reader.has_more" sMore fMo fdMo ["self"]) (GMo : FnOk W.P W.w K mg base CX0 13 fMo fdMo ["self"] (spMore K CR))
  (DOn : Def K mg "answer_one" sOne fOn fdOn ["desk", "reader"]) (GOn : FnOk W.P W.w K mg base CX0 13 fOn fdOn ["desk", "reader"] (spOne W K CR t1 t2 t3)) : FnOk W.P W.w K mg base CX0 14 f fd ["calls"] (spAnswers K t1 t2 t3) := by
 refine D.F.ok scAnswers (fun vs H Q E h => ?_) (fun cdv A outer s H vs Q E hr h => ?_)
 ·obtain ⟨c, ns, cs, rfl, _⟩ := h
  rfl
 ·obtain ⟨c, ns, cs, rfl, hc, L, ⟨tb1, tb2, tb3, nt⟩, k⟩ := h
  refine ⟨_, pss_cons (ps_set (i := 1) scAnswers.nd rfl (Or.inl rfl) (pe_make0 MkD GDI hr rfl TD.mgC bDI .nil pass0))
   (pss_cons (ps_set (i := 2) scAnswers.nd rfl (Or.inl rfl) (pe_make MkR GRI hr rfl TR.mgC bRI .nil pass0 (pa_cons (pv 0) pa_nil)))
   (pss_cons (ps_set (i := 3) scAnswers.nd rfl (Or.inl rfl) (pe_lst pa_nil))
   (pss_cons (ps_while PassesOwn.never (pt_val (pe_meth0 (pv 2) TR.cl MMo.me GMo hr MMo.b .nil pass0))
    (pss_cons (ps_set (i := 4) scAnswers.nd rfl (Or.inl rfl) (pe_call GOn hr rfl DOn.mg DOn.F.kp DOn.b .nil pass0 (pa_cons (pv 1) (pa_cons (pv 2) pa_nil))))
    (pss_cons (ps_expr (pe_bm PySem.F.plainAttrs_list PySem.F.slot_list_append PySem.F.type_list_append mt_append (pv 3) (pa_cons (pe_callB call_len_seq (by rfl) TT.len PySem.boot_len (pa_cons (pv 4) pa_nil)) pa_nil)))
    (pss_one (ps_expr (pe_bm PySem.F.plainAttrs_list PySem.F.slot_list_extend PySem.F.type_list_extend mt_extend (pv 3) (pa_cons (pv 4) pa_nil)))))))
   (pss_one (ps_ret (pv 3)))))), ?_⟩
  intro p dp np ndp ndp'
  have s0 : Same H (upd (upd H dp (.own p)) p (.ins W.CD dp [])) := fun b o e => by
   rw [upd_ne (ne_of_none e np), upd_ne (ne_of_none e ndp)]
   exact e
  refine ⟨p, dp, rfl, upd_same, tb1.tk s0, tb2.tk s0, tb3.tk s0, nt, fun q d f' e a H1 hq hd hf he ha d1 k1 => ⟨rfl, ?_⟩⟩
  have s1 : Same H H1 := Same.made np ndp k1
  have nd := s0.free hd
  have ne := s0.free he
  refine ⟨_, rfl, ?_⟩
  intro rq dq nq ndq ndq'
  refine ⟨rq, c, dq, rfl, upd_same, fun H2 rd2 k2 => ⟨rfl, ?_⟩⟩
  have s2 : Same H1 H2 := Same.made nq ndq k2
  have d2 := d1.same s2
  have nrq : H rq = none := s1.free nq
  have of : Off ⟨p, q, d, f', e, t1, t2, t3⟩ rq := by
   obtain ⟨⟨dx, h1⟩, _, fut, _⟩ := d1
   obtain ⟨dxf, h2⟩ := fut.ob
   obtain ⟨dxq, h3⟩ := fut.part.ob
   exact ⟨(ne_of_none h1 nq).symm, (ne_of_none h3 nq).symm, (ne_of_none h2 nq).symm⟩
  refine ⟨(by show 0 <= sizeLine; decide), fun T hT => ?_⟩
  have s3 : Same H2 (upd H2 T (.lst [])) := same_new hT
  have hTn : H T = none := (s1.trans s2).free hT
  obtain ⟨dq2, hq2⟩ := id rd2
  have gs : Good (Rc75Neutral.start).row := Good.nil
  have shD : ∀ done rest, cs = done ++ rest -> (∀ x ∈ done, Shape x) /\ ∀ x ∈ done, asked1 (PyRc75.whole x) = true := fun done rest ecs => ⟨fun x hx => L.sh x (by rw [ecs]; simp [hx]), fun x hx => L.as x (by rw [ecs]; simp [hx])⟩
  have total : ahs cs <= 20 := by
   have h1 := ahs_le cs
   have h2 := L.sum
   omega
  refine ⟨fun m σ H' => ∃ (done rest : List (List (List Int))) (a : Addr) (v : Option V) (U : List Row) (Ls : List Addr), cs = done ++ rest /\ rest.length = m /\ σ = [some (.ref c), some (.ref p), some (.ref rq), some (.ref T), v] /\ KeepT H H' /\ a ≠ T /\ T ∉ Ls /\ Gh done.length (ahs done) (after start (done.map PyRc75.whole)).row U /\
    DeskAt W ⟨p, q, d, f', e, t1, t2, t3⟩ H' a (YC * done.length) U Ls (after start (done.map PyRc75.whole)).row /\ ReaderAt CR H' rq c (put done).length /\ H' T = some (.lst ((told (played step start (done.map PyRc75.whole))).map V.int)),
   ⟨cs.length, [], cs, a, none, chU [] 15, [], rfl, rfl, rfl, fun b o x _ => (s1.trans s2).trans s3 b o x, ne_of_none d2.row hT, by simp, Gh.new, (d2.same s3).grow (fun _ z => (by cases z)), ⟨dq2, s3 _ _ hq2⟩, upd_same⟩, ?_⟩
  rintro m σ H3 ⟨done, rest, a3, v, U, Ls, ecs, hm, rfl, sH3, na3, nTL, gh, d3, rd3, hT3⟩
  have hc3 : SqL K H3 c (ns.map V.int) := sH3.seq hc
  obtain ⟨dq3, hq3⟩ := id rd3
  refine ⟨_, rfl, rq, dq3, _, rfl, hq3, rf_no _ _ (by decide +kernel) (by decide +kernel), rq, c, _, _, rfl, rd3, hc3, _, rfl, ?_⟩
  have eL : ns.length = (put done).length + (put rest).length := by
   rw [L.put, ecs, put_append, List.length_append]
  rw [List.length_map]
  cases rest with
  | nil =>
   refine ite2 (fun h => ?_) (fun _ => ?_)
   ·have h' := of_decide_eq_true h
    have : (put []).length = 0 := rfl
    omega
   ·rw [List.append_nil] at ecs
    subst ecs
    refine ⟨_, rfl, k T H3 ?_⟩
    rw [L.due]
    exact hT3
  | cons cc rest =>
   have hcc : cc ∈ cs := by rw [ecs]; simp
   have gd : Good (after start (done.map PyRc75.whole)).row := good_after gs (shD _ _ ecs).1 (shD _ _ ecs).2
   have gstep := good_step (s := after start (done.map PyRc75.whole)) gd (L.sh cc hcc) (L.as cc hcc)
   have tl : (told (played step start (done.map PyRc75.whole))).length <= 65538 * done.length := told_len gs (shD _ _ ecs).1 (shD _ _ ecs).2
   have few : done.length <= 19 := by
    have := L.few
    rw [ecs, List.length_append, List.length_cons] at this
    omega
   have ah : ahs done <= 20 := by
    rw [ecs, ahs_append] at total
    omega
   obtain ⟨U2, gh2, hU2⟩ := gh_step gh gd ah (L.sh cc hcc) (L.as cc hcc)
   have hput1 : 0 < (put1 cc).length := by
    cases L.sh cc hcc <;> (show 0 < _ + 1; omega)
   have eP : (put (cc :: rest)).length = (put1 cc).length + (put rest).length := by
    show (put1 cc ++ put rest).length = _
    rw [List.length_append]
   refine ite2 (fun _ => ?_) (fun h => ?_)
   ·refine ⟨fun σ' H' => ∃ (a : Addr) (v : Option V) (U : List Row) (Ls : List Addr), σ' = [some (.ref c), some (.ref p), some (.ref rq), some (.ref T), v] /\ KeepT H H' /\ a ≠ T /\ T ∉ Ls /\ Gh (done ++ [cc]).length (ahs (done ++ [cc])) (after start ((done ++ [cc]).map PyRc75.whole)).row U /\
     DeskAt W ⟨p, q, d, f', e, t1, t2, t3⟩ H' a (YC * (done ++ [cc]).length) U Ls (after start ((done ++ [cc]).map PyRc75.whole)).row /\ ReaderAt CR H' rq c (put (done ++ [cc])).length /\ H' T = some (.lst ((told (played step start ((done ++ [cc]).map PyRc75.whole))).map V.int)), ?_, ?_⟩
    ·rintro σ' H' ⟨a', v', U', Ls', e1, e2, e2', e3, e4, e5, e6, e7⟩
     exact ⟨rest.length, by rw [<- hm]; simp, done ++ [cc], rest, a', v', U', Ls', by rw [ecs]; simp, rfl, e1, e2, e2', e3, e4, e5, e6, e7⟩
    ·refine ⟨_, rfl, _, rfl, ⟨p, q, d, f', e, t1, t2, t3⟩, a3, rq, c, _, U, Ls, _, ns, put done, put rest, cc, rfl, ⟨rfl, rfl, rfl⟩, of, d3, rd3, hc3, ?_, L.sh cc hcc, L.as cc hcc, gd, gh.fit few ah, fun r a4 Ls4 H4 hr4 ha4' h4' d4 rd4 k4 l4 => ?_⟩
     ·rw [L.put, ecs, put_append]
      rfl
     have nTS : T ∉ (⟨p, q, d, f', e, t1, t2, t3⟩ : Ad).S := d3.notS hT3 (by intro _ _ _ z; cases z) (by intro _ z; cases z) (by intro _ z; cases z) (by intro _ z; cases z)
     have nTq : T ≠ rq := ne_of hT3 hq3 (by intro z; cases z)
     have hT4 := k4 T _ hT3 nTS nTq
     have nrT : r ≠ T := (ne_of_none hT3 hr4).symm
     refine ⟨_, rfl, .inl ⟨rfl, _, SqL.of hT4⟩, _, rfl, r, _, rfl, .inl (SqL.of h4'), T, _, _, rfl, rfl, hT4, line_lt (by rw [List.length_map]; omega), ?_⟩
     have h4r : ∀ o, (upd H4 T o) r = some (.lst ((step (after start (done.map PyRc75.whole)) (PyRc75.whole cc)).2.map V.int)) := fun o => by rw [upd_ne nrT]; exact h4'
     refine ⟨_, rfl, .inl ⟨rfl, _, SqL.of upd_same⟩, _, rfl, T, r, _, _, rfl, rfl, upd_same, h4r _, line_le ?_, ?_⟩
     ·have : (step ⟨(after start (done.map PyRc75.whole)).row⟩ (PyRc75.whole cc)).2.length <= 65537 := gstep.2
      rw [List.length_append, List.length_map, List.length_map]
      show _ + 1 + _ <= _
      omega
     rw [upd_upd]
     have hk : ∀ b o, H4 b = some o -> b ≠ T -> ∀ u, (upd H4 T u) b = some o := fun b o e hb u => by rw [upd_ne hb]; exact e
     obtain ⟨dq4, hq4⟩ := id rd4
     have naT : a4 ≠ T := by
      rcases ha4' with z | z
      ·rw [z]; exact na3
      ·exact (ne_of_none hT3 z).symm
     have nTL4 : T ∉ Ls4 := fun z => (l4 T z).elim nTL fun z2 => by
      rw [hT3] at z2
      cases z2
     have elen : (done ++ [cc]).length = done.length + 1 := by simp
     have eah : ahs (done ++ [cc]) = ahs done + aN cc := by
      rw [ahs_append]
      show _ + (aN cc + 0) = _
      omega
     have eaft : (after start ((done ++ [cc]).map PyRc75.whole)).row = (step (after start (done.map PyRc75.whole)) (PyRc75.whole cc)).1.row := by
      rw [List.map_append, after_append]
      rfl
     refine ⟨a4, _, U2, Ls4, rfl, fun b o x no => ?_, naT, nTL4, ?_, ?_, ⟨dq4, ?_⟩, ?_⟩
     ·have bS : b ∉ (⟨p, q, d, f', e, t1, t2, t3⟩ : Ad).S := by
       intro z
       simp only [Ad.S, List.mem_cons, List.not_mem_nil, or_false] at z
       rcases z with rfl | rfl | rfl | rfl | rfl | rfl
       ·rw [np] at x; cases x
       ·rw [nd] at x; cases x
       ·rw [ne] at x; cases x
       ·obtain ⟨ps, q⟩ := tb1.at; rw [q] at x; cases x; exact no _ rfl
       ·obtain ⟨ps, q⟩ := tb2.at; rw [q] at x; cases x; exact no _ rfl
       ·obtain ⟨ps, q⟩ := tb3.at; rw [q] at x; cases x; exact no _ rfl
      exact hk _ _ (k4 b o (sH3 b o x no) bS (ne_of_none x nrq)) (ne_of_none x hTn) _
     ·rw [elen, eah, eaft]
      exact gh2
     ·rw [elen, eaft, show YC * (done.length + 1) = YC * done.length + YC from rfl]
      exact (d4.off (z := T) (fun b o x hb => hk b o x hb _) (.inl ⟨_, hT4, nTL4, naT.symm⟩)).grow hU2
     ·rw [hk _ _ hq4 nTq.symm, put_append, List.length_append]
      show some (HO.ins CR dq4 (rf c ((put done).length + (put1 cc).length))) = some (HO.ins CR dq4 (rf c ((put done).length + (put1 cc ++ []).length)))
      rw [List.append_nil]
     ·rw [upd_same, List.map_append, played_append, told_append]
      show _ = some (HO.lst ((told (played step start (done.map PyRc75.whole)) ++ told [(step (after start (done.map PyRc75.whole)) (PyRc75.whole cc)).2]).map V.int))
      rw [told_one, List.map_append, List.map_cons, List.length_map]
      simp
   ·exfalso
    refine h (decide_eq_true ?_)
    omega
end
end RA
end
section
namespace L2
open PySem PySem.Spec PyProof.Rows
theorem spec_callT {P : Program} {w : World} {K : PySem.W.Frag} {mg mb : Str -> Option Value} {k : Nat} {fa a c1 c2 c3 t1 t2 t3 : Addr} {fd : FuncData} {x : Str} {sp : Sp} {s₁ : Shared} {vs : List Value} {ns ys : List Int} {cl : Str -> Option Addr}
  (KX : K.In s₁.heap) (hns : s₁.heap.Ns mainGlobals mg) (hb : s₁.heap.Ns builtinsNs mb) (hbb : ∀ x : Str, x ≠ "__name__" -> mb x = bootBuiltins x) (hlim : s₁.heap.NoLimit) (hg : s₁.gens = #[])
  (C1 : PySem.W.CodeHd s₁.heap c1 t1) (C2 : PySem.W.CodeHd s₁.heap c2 t2) (C3 : PySem.W.CodeHd s₁.heap c3 t3) (hT : ∀ t, t = t1 \/ t = t2 \/ t = t3 -> s₁.heap.get? t = some (PySem.W.tabObj #[])) (hb0 : RA.BMain s₁.heap mg) (nT : ∀ t, t = t1 \/ t = t2 \/ t = t3 -> K.lookup t = none)
  (ha : s₁.heap.get? a = some { cls := .type "list", data := .seq vs.toArray }) (hi : IntsAre vs ns) (hl : ns.length <= sizeLine) (hr : Room k callerA)
  (F : ∀ base : Heap, K.In base -> base.Ns mainGlobals mg -> RA.BMain base mg -> PySem.W.CodeHd base c1 t1 -> PySem.W.CodeHd base c2 t2 -> PySem.W.CodeHd base c3 t3 -> FnOk P w K mg base CX0 k fa fd [x] sp) (hbind : ∀ (s : Shared) (u : Value), BindsTo s fd ⟨[u], []⟩ [(x, u)])
  (hsp : ∀ H : Hp, SqL K H a (ns.map V.int) -> (∀ t, t = t1 \/ t = t2 \/ t = t3 -> H t = some (.tbl #[])) -> sp [.ref a] H (fun v H' => ∃ l, v = .ref l /\ H' l = some (.lst (ys.map V.int))) E0) :
  codeAny (model P w) callerA (.call (.ref fa) ⟨[.ref a], []⟩) (fun r s' => (∃ u as, r = .ok (.ret u) /\ PySem.W.ReadsW [] cl s'.heap u (.list (ys.map PySem.W.WData.int)) as) /\ OldK s₁.heap s'.heap /\ s'.os = s₁.os /\ AllBare s'.gens) s₁ := by
 have rv := vals_ints hi
 have lenV := hi.length
 have isT : ∀ t, t = t1 \/ t = t2 \/ t = t3 -> isCodeTable s₁.heap t := fun t h => by
  rcases h with rfl | rfl | rfl
  ·exact (C1.tab (hT _ (.inl rfl))).isCodeTable
  ·exact (C2.tab (hT _ (.inr (.inl rfl)))).isCodeTable
  ·exact (C3.tab (hT _ (.inr (.inr rfl)))).isCodeTable
 have naT : ∀ t, t = t1 \/ t = t2 \/ t = t3 -> t ≠ a := fun t h q => by
  have e := hT t h
  rw [q, ha] at e
  cases e
 have core : ∀ H : Hp, (∀ t, t = t1 \/ t = t2 \/ t = t3 -> H t = some (.tbl #[])) -> (∀ b, H b ≠ none -> (b = t1 \/ b = t2 \/ b = t3) \/ (b = a /\ K.lookup a = none /\ ∃ o xs, H a = some (.frz o xs))) -> SqL K H a (ns.map V.int) -> HOk P w H s₁.heap ->
   codeAny (model P w) callerA (.call (.ref fa) ⟨[.ref a], []⟩) (fun r s' => (∃ u as, r = .ok (.ret u) /\ PySem.W.ReadsW [] cl s'.heap u (.list (ys.map PySem.W.WData.int)) as) /\ OldK s₁.heap s'.heap /\ s'.os = s₁.os /\ AllBare s'.gens) s₁ := by
  intro H hO hA hS hok
  have base_of : ∀ {b : Addr} {o : Obj}, s₁.heap.get? b = some o -> H b = none -> (hidT s₁.heap H).get? b = some o := fun e n => hidT_get e n
  have noA : ∀ {b : Addr} {o : Obj}, s₁.heap.get? b = some o -> o ≠ PySem.W.tabObj #[] -> (b = a -> False) -> H b = none := fun {b o} e d n => by
   cases q : H b with
   | none => rfl
   | some u =>
    rcases hA b (by rw [q]; simp) with z | z
    ·have e2 := hT b z
     rw [e] at e2
     exact absurd (Option.some.inj e2) d
    ·exact (n z.1).elim
  have nsK : ∀ {b : Addr} {m : Str -> Option Value}, s₁.heap.Ns b m -> (hidT s₁.heap H).Ns b m := fun {b m} ⟨o, es, ep, e, d, r⟩ => ⟨o, es, ep, base_of e (noA e (fun q => by rw [q] at d; cases d) (fun q => by rw [q, ha] at e; cases e; cases d)), d, r⟩
  have cdK : ∀ {c t : Addr}, PySem.W.CodeHd s₁.heap c t -> PySem.W.CodeHd (hidT s₁.heap H) c t := fun {c t} x => by
   obtain ⟨o, us, file, tf, flags, tg, inF, text, tt, e, r1, r⟩ := x
   exact ⟨o, us, file, tf, flags, tg, inF, text, tt, base_of e (noA e (fun q => by rw [q] at r1; cases r1) (fun q => by rw [q, ha] at e; cases e; have z : Value.type "list" = Value.type "code" := r1; injection z with z; exact absurd z (by decide))), r1, r⟩
  have bmK : RA.BMain (hidT s₁.heap H) mg := by
   obtain ⟨bm, ob, a1, a2, e, r1, r⟩ := hb0
   exact ⟨bm, ob, a1, a2, base_of e (noA e (fun q => by rw [q] at r1; cases r1) (fun q => by rw [q, ha] at e; cases e; have z : Value.type "list" = Value.type "module" := r1; injection z with z; exact absurd z (by decide))), r1, r⟩
  have hKb : K.In (hidT s₁.heap H) := fun b o e => base_of (KX b o e) (by
   cases q : H b with
   | none => rfl
   | some u =>
    rcases hA b (by rw [q]; simp) with z | ⟨rfl, z, _⟩
    ·rw [nT b z] at e; cases e
    ·rw [z] at e; cases e)
  have hM : Mod K mg (hidT s₁.heap H) := ⟨hKb, nsK hns, ⟨mb, nsK hb, hbb⟩, let ⟨mc, h1, h2⟩ := hlim; ⟨mc, nsK h1, h2⟩⟩
  have e0 : Env0 P w K mg (hidT s₁.heap H) callerA [] s₁ H := ⟨rfl, hM, fun b o e => of_hidT e, Nat.le_of_eq (hidT_size _ _), trivial, fun b hb => absurd (show b ∈ ([] : List Addr) from hb) (by simp), hok, .of_eq hg⟩
  refine codeAny_mono ((F _ hKb (nsK hns) bmK (cdK C1) (cdK C2) (cdK C3)).run callerA [] s₁ H ⟨[.ref a], []⟩ [.ref a] [.ref a] _ _ hr e0 (hbind s₁ (.ref a)) (.cons rfl .nil) (hsp H hS hO)) fun r s' h => ?_
  cases r with
  | error e => exact False.elim h
  | ok fl =>
   cases fl with
   | next => exact False.elim h
   | brk => exact False.elim h
   | cont => exact False.elim h
   | ret u =>
    obtain ⟨v, H', os, bare, un, hok', r', q⟩ := h
    obtain ⟨l, rfl, hl'⟩ := q
    obtain rfl : u = Value.ref l := r'
    obtain ⟨_, its, n, rI, ho⟩ := hok' l _ hl'
    have kp : ∀ b o, s₁.heap.get? b = some o -> ¬ (b = t1 \/ b = t2 \/ b = t3) -> s'.heap.get? b = some o := fun b o e nt => by
     cases q : H b with
     | none => exact un.keep b o e q (by intro z; exact absurd (show b ∈ ([] : List Addr) from z) (by simp)) (by simp)
     | some u =>
      rcases hA b (by rw [q]; simp) with z | ⟨rfl, _, ob, xs, z⟩
      ·exact (nt z).elim
      ·have z2 := un.frzs _ ob _ z
       obtain ⟨e1, _⟩ := hok _ _ z
       obtain ⟨e2, _⟩ := hok' _ _ z2
       rw [e] at e1; cases e1
       exact e2
    have kt : ∀ b, (b = t1 \/ b = t2 \/ b = t3) -> ∃ ps, s'.heap.get? b = some (PySem.W.tabObj ps) := fun b hb => by
     obtain ⟨more, z⟩ := un.tbls b _ (hO b hb)
     exact ⟨_, hok' _ _ z⟩
    refine ⟨⟨_, _, rfl, .list ho rfl rfl (by simpa using readsAll_ints (cl := cl) (h := s'.heap) ys its rI)⟩, ⟨fun b o e => ?_, fun b o e => ?_⟩, os, bare⟩
    ·by_cases hb : b = t1 \/ b = t2 \/ b = t3
     ·obtain ⟨ps, hps⟩ := kt b hb
      have e2 := hT b hb
      rw [e] at e2
      cases e2
      exact .inr (.inl ⟨isT b hb, rfl, #[], ps, rfl, by rw [Array.empty_append]; exact hps⟩)
     ·exact .inl (kp b o e hb)
    ·by_cases hb : b = t1 \/ b = t2 \/ b = t3
     ·obtain ⟨ps, hps⟩ := kt b hb
      exact ⟨_, hps⟩
     ·exact ⟨o, kp b o e hb⟩
 cases hk : K.lookup a with
 | some o =>
  have e := KX a o hk
  rw [ha] at e
  cases e
  refine core (fun b => if b = t1 \/ b = t2 \/ b = t3 then some (.tbl #[]) else none) (fun t h => if_pos h) (fun b z => .inl ?_) (.inr ⟨_, vs.toArray, _, hk, rfl, rfl, rfl, by rw [List.size_toArray, lenV]; exact hl, by simpa using rv⟩) (fun b u z => ?_)
  ·by_cases hb : b = t1 \/ b = t2 \/ b = t3
   ·exact hb
   ·exact absurd (if_neg hb) z
  ·by_cases hb : b = t1 \/ b = t2 \/ b = t3
   ·have z' := (if_pos hb).symm.trans z
    cases z'
    exact hT b hb
   ·have z' := (if_neg hb).symm.trans z
    cases z'
 | none =>
  have nta : ¬ (a = t1 \/ a = t2 \/ a = t3) := fun h => naT a h rfl
  have hHa : (fun b => if b = t1 \/ b = t2 \/ b = t3 then some (HO.tbl #[]) else if b = a then some (HO.frz { cls := .type "list", data := .seq vs.toArray } (.lst (ns.map V.int))) else none) a = some (HO.frz { cls := .type "list", data := .seq vs.toArray } (.lst (ns.map V.int))) := (if_neg nta).trans (if_pos rfl)
  refine core (fun b => if b = t1 \/ b = t2 \/ b = t3 then some (.tbl #[]) else if b = a then some (.frz { cls := .type "list", data := .seq vs.toArray } (.lst (ns.map V.int))) else none) (fun t h => if_pos h) (fun b z => ?_) (.inl (.inr ⟨{ cls := .type "list", data := .seq vs.toArray }, hHa⟩)) (fun b u z => ?_)
  ·by_cases hb : b = t1 \/ b = t2 \/ b = t3
   ·exact .inl hb
   ·by_cases ha' : b = a
    ·exact .inr ⟨ha', hk, _, _, hHa⟩
    ·exact absurd ((if_neg hb).trans (if_neg ha')) z
  ·by_cases hb : b = t1 \/ b = t2 \/ b = t3
   ·have z' := (if_pos hb).symm.trans z
    cases z'
    exact hT b hb
   ·by_cases ha' : b = a
    ·subst ha'
     have z' := hHa.symm.trans z
     cases z'
     exact ⟨ha, by rw [List.length_map]; exact hl, vs, _, rv, ha⟩
    ·have z' := ((if_neg hb).trans (if_neg ha')).symm.trans z
     cases z'
theorem walk_specT {r : PySem.W.OpenSpec} {n k : Nat} {q : Program} {loose : List Str} {XP : (Str -> Option Value) -> Heap -> Prop} {YP : World -> Heap -> Prop} {d : DefRec} {K : Params -> PySem.W.Frag} {c1 c2 c3 t1 t2 t3 : Addr} {sp : PySem.W.Frag -> Sp} {x : Str} {f : List Int -> List Int} {asked : List Int -> Prop}
  (hpre : ∀ args, r.pre args = true -> ∃ ns : List Int, args = [PySem.W.WData.list (ns.map PySem.W.WData.int)] /\ ns.length <= n /\ asked ns /\ r.post args (.list ((f ns).map PySem.W.WData.int)) = true)
  (hn2 : n <= sizeLine) (hdf : d.params.defaults = []) (hr : Room k callerA)
  (hY : ∀ (w : World) (h : Heap), YP w h -> (K w.params).In h /\ ∀ t ∈ [t1, t2, t3], h.get? t = some (PySem.W.tabObj #[]))
  (hC : ∀ w : World, (PySem.W.codeHdIn (K w.params) c1 t1 = true /\ PySem.W.codeHdIn (K w.params) c2 t2 = true /\ PySem.W.codeHdIn (K w.params) c3 t3 = true) /\ (K w.params).lookup t1 = none /\ (K w.params).lookup t2 = none /\ (K w.params).lookup t3 = none)
  (F : ∀ (w : World) (mg : Str -> Option Value) (fa : Addr) (h : Heap), (K w.params).In h -> h.Ns mainGlobals mg -> mg d.name = some (.ref fa) ->
   ∃ fd : FuncData, (∀ (s : Shared) (u : Value), BindsTo s fd ⟨[u], []⟩ [(x, u)]) /\
    ∀ base : Heap, (K w.params).In base -> base.Ns mainGlobals mg -> RA.BMain base mg -> PySem.W.CodeHd base c1 t1 -> PySem.W.CodeHd base c2 t2 -> PySem.W.CodeHd base c3 t3 -> FnOk r.prog w (K w.params) mg base CX0 k fa fd [x] (sp (K w.params)))
  (hsp : ∀ (K : PySem.W.Frag) (H : Hp) (a : Addr) (ns : List Int), ns.length <= n -> asked ns -> SqL K H a (ns.map V.int) -> (∀ t, t = t1 \/ t = t2 \/ t = t3 -> H t = some (.tbl #[])) -> sp K [.ref a] H (fun v H' => ∃ l, v = .ref l /\ H' l = some (.lst ((f ns).map V.int))) E0) :
  PySem.W.WalkOS q loose XP YP r d [] (fun f vs => PySem.call f vs) := by
 intro w s₀ s₁ mg mb G Y fa o pm cd doc dV kV ho hd hcd hD hmg hg args vals as hp hlay hrd hwl hlo
 obtain rfl : dV = .none := PySem.W.Dflts.none hD hdf
 obtain rfl : kV = .none := PySem.W.Dflts.noKw hD
 obtain ⟨ns, rfl, hlen, hask, hpost⟩ := hpre args hp
 obtain ⟨a, vs, rfl, hobj, hints⟩ := laid_of hwl
 obtain ⟨KX, hTs⟩ := hY w _ Y
 obtain ⟨⟨k1, k2, k3⟩, l1, l2, l3⟩ := hC w
 obtain ⟨fd, hb, hF⟩ := F w mg fa _ KX G.T.g hmg
 have hT : ∀ t, t = t1 \/ t = t2 \/ t = t3 -> s₁.heap.get? t = some (PySem.W.tabObj #[]) := fun t h => hTs t (by simpa using h)
 have bm : RA.BMain s₁.heap mg := let ⟨bm, ob, a1, a2, a3, a4, a5, a6⟩ := G.T.bmain; ⟨bm, ob, a1, a2, a3, a4, a5, a6⟩
 refine PySem.W.enter_call (codeAny_mono (spec_callT (cl := PySem.classAt s₀.heap) KX G.T.g G.T.b G.T.builtins G.T.nolimit hg (PySem.W.codeHd_of_K KX k1) (PySem.W.codeHd_of_K KX k2) (PySem.W.codeHd_of_K KX k3) hT bm (fun t h => by rcases h with rfl | rfl | rfl <;> assumption) hobj hints (Nat.le_trans hlen hn2) hr hF hb (fun H hS hO => hsp _ H a ns hlen hask hS hO)) fun r' s' hq => ?_)
 obtain ⟨⟨u, as', rfl, hrd'⟩, h2, h3, h4⟩ := hq
 exact ⟨.inl ⟨u, _, as', rfl, PySem.W.osNone, hrd', PySem.W.osPost hpost, fun h => absurd h Bool.false_ne_true⟩, h2, h3, h4⟩
end L2
end
section
namespace RA
open PySem L2
def DefK (K : PySem.W.Frag) (x : Str) (st : Stmt) : Prop := ∃ f fd, PySem.W.nsIn K mainGlobals x = some (some (.ref f)) /\ Fun K x x st f fd
def MethK (K : PySem.W.Frag) (C : Addr) (m qual : Str) (st : Stmt) : Prop := ∃ f fd, Meth K C m f /\ Fun K m qual st f fd
def MethC (K : PySem.W.Frag) (C : Addr) (m qual : Str) (st : Stmt) (c : Addr) : Prop := ∃ f fd, Meth K C m f /\ FunC K m qual st f fd c
structure ClsK (K : PySem.W.Frag) (x : Str) (C : Addr) : Prop where
 ns : PySem.W.nsIn K mainGlobals x = some (some (.ref C))
 cl : Cls K C
 mks : PySem.W.makesIn K C = true
 kp : PySem.W.keepIn K (.ref C) = true
def IntK (K : PySem.W.Frag) (x : Str) (n : Int) : Prop := ∃ t, PySem.W.nsIn K mainGlobals x = some (some (.int n t))
section
variable {K : PySem.W.Frag} {x m qual : Str} {st : Stmt} {f C : Addr} {oc : Value} {od an : Option Addr} {osl : Array (Option Value)} {kV doc pm cdv ct : Value}
theorem defk (a : PySem.W.nsIn K mainGlobals x = some (some (.ref f))) (l : K.lookup f = some ⟨oc, od, .func (PySem.W.fnOf x x (defArgs st) (defBody st) (defScope st) .none kV doc pm an cdv ct), osl⟩)
  (c : PySem.W.codeIn K cdv x = true) (k : PySem.W.keepIn K (.ref f) = true) : DefK K x st := ⟨f, _, a, fun_mk l c k⟩
theorem methk (a : PySem.W.findIn K (.ref C) m = some (some (.ref f))) (i : PySem.W.isFn K (.ref f) = true) (l : K.lookup f = some ⟨oc, od, .func (PySem.W.fnOf m qual (defArgs st) (defBody st) (defScope st) .none kV doc pm an cdv ct), osl⟩)
  (c : PySem.W.codeIn K cdv qual = true) (k : PySem.W.keepIn K (.ref f) = true) : MethK K C m qual st := ⟨f, _, ⟨a, i, k⟩, fun_mk l c k⟩
theorem methc {c : Addr} (a : PySem.W.findIn K (.ref C) m = some (some (.ref f))) (i : PySem.W.isFn K (.ref f) = true) (l : K.lookup f = some ⟨oc, od, .func (PySem.W.fnOf m qual (defArgs st) (defBody st) (defScope st) .none kV doc pm an (.ref c) ct), osl⟩)
  (cd : PySem.W.codeIn K (.ref c) qual = true) (k : PySem.W.keepIn K (.ref f) = true) : MethC K C m qual st c := ⟨f, _, ⟨a, i, k⟩, ⟨oc, od, kV, doc, pm, an, ct, osl, rfl, l, cd⟩⟩
theorem FunC.fun {f c : Addr} {fd : FuncData} (F : FunC K x qual st f fd c) (k : PySem.W.keepIn K (.ref f) = true) : Fun K x qual st f fd := by
 obtain ⟨oc, od, kV, doc, pm, an, ct, osl, rfl, lk, hcd⟩ := F.ex
 exact ⟨⟨oc, od, kV, doc, pm, an, _, ct, osl, rfl, lk, hcd⟩, k⟩
theorem intk {n : Int} {t : Tok} (a : PySem.W.nsIn K mainGlobals x = some (some (.int n t))) : IntK K x n := ⟨t, a⟩
theorem IntK.gi {h : Heap} {mg : Str -> Option Value} {n : Int} (i : IntK K x n) (X : K.In h) (G : h.Ns mainGlobals mg) : GI mg x n := let ⟨t, e⟩ := i; ⟨t, PySem.W.mg_of X G e⟩
end
set_option maxHeartbeats 0 in
theorem all_ok {P : Program} {w : World} {K : PySem.W.Frag} {h : Heap} {mg : Str -> Option Value} {fa CD CF CP CR c1 c2 c3 t1 t2 t3 : Addr} (X : K.In h) (G : h.Ns mainGlobals mg) (hfa : mg "answers" = some (.ref fa))
  (kCD : ClsK K "Desk" CD) (kCF : ClsK K "Future" CF) (kCP : ClsK K "Parting" CP) (kCR : ClsK K "Reader" CR)
  (nCDdigits : NoAttr K CD "digits") (nCDparting : NoAttr K CD "parting") (nCDfuture : NoAttr K CD "future") (nCFparting : NoAttr K CF "parting")
  (nCFknown : NoAttr K CF "known") (nCPknown : NoAttr K CP "known") (nCRnumbers : NoAttr K CR "numbers") (nCRplace : NoAttr K CR "place")
  (zlen : PySem.W.nsIn K mainGlobals "len" = some none) (zrange : PySem.W.nsIn K mainGlobals "range" = some none) (zlist : PySem.W.nsIn K mainGlobals "list" = some none) (zmin : PySem.W.nsIn K mainGlobals "min" = some none)
  (zmax : PySem.W.nsIn K mainGlobals "max" = some none) (ztuple : PySem.W.nsIn K mainGlobals "tuple" = some none) (zsum : PySem.W.nsIn K mainGlobals "sum" = some none) (zdict : PySem.W.nsIn K mainGlobals "dict" = some none)
  (iLONGEST : IntK K "LONGEST" 65536) (iMOST_SET : IntK K "MOST_SET" 256) (iHIGHEST : IntK K "HIGHEST" 9) (iSIGHT : IntK K "SIGHT" 8)
  (iMOST_DAYS : IntK K "MOST_DAYS" 120) (iTOLD_BELOW : IntK K "TOLD_BELOW" 18446744073709551616) (iBEGIN : IntK K "BEGIN" 0) (iSET : IntK K "SET" 1)
  (iROW : IntK K "ROW" 2) (iDAYS : IntK K "DAYS" 3) (iBACK : IntK K "BACK" 4) (iLONG : IntK K "LONG" 5)
  (iCOUNT : IntK K "COUNT" 6) (iAT : IntK K "AT" 7) (iCUTS : IntK K "CUTS" 8) (dsRuns : DefK K "runs" sRuns)
  (dsReadRuns : DefK K "read_runs" sReadRuns) (dsAloud : DefK K "read_aloud" sAloud) (dsLater : DefK K "later" sLater) (dsBefore : DefK K "day_before" sBefore)
  (dsMay : DefK K "may_be_set" sMay) (dsPartAt : DefK K "part_at" sPartAt) (dsBeg : DefK K "beginning" sBeg) (dsBegLater : DefK K "beginning_later" sBegLater)
  (dsFirst : DefK K "first_digit" sFirst) (dsFirsts : DefK K "first_digits" sFirsts) (dsMost : DefK K "counted_most" sMost) (dsGo : DefK K "may_go_by" sGo)
  (dsOne : DefK K "answer_one" sOne) (dsAnswers : DefK K "answers" sAnswers) (dsPInit : MethK K CP "__init__" "Parting.__init__" sPInit) (dsAhead : MethK K CP "digits_ahead" "Parting.digits_ahead" sAhead)
  (dsPlaces : MethK K CP "places" "Parting.places" sPlaces) (dsParts : MethK K CP "parts" "Parting.parts" sParts) (dsFInit : MethK K CF "__init__" "Future.__init__" sFInit) (dsPLater : MethK K CF "parts_later" "Future.parts_later" sPLater)
  (dsByDay : MethK K CF "parts_by_day" "Future.parts_by_day" sByDay) (dsMDay : MethK K CF "measured_by_day" "Future.measured_by_day" sMDay) (dsSums : MethK K CF "sums" "Future.sums" sSums) (dsMeas : MethK K CF "measured" "Future.measured" sMeas)
  (dsLenL : MethC K CF "length_later" "Future.length_later" sLenL c1) (dsOften : MethC K CF "often_later" "Future.often_later" sOften c2) (dsDigitL : MethC K CF "digit_later" "Future.digit_later" sDigitL c3) (dsDInit : MethK K CD "__init__" "Desk.__init__" sDInit)
  (dsBegin : MethK K CD "begin" "Desk.begin" sBegin) (dsPut : MethK K CD "put" "Desk.put" sPut) (dsRow : MethK K CD "row" "Desk.row" sRow) (dsDays : MethK K CD "days" "Desk.days" sDays)
  (dsBack : MethK K CD "back" "Desk.back" sBack) (dsBecome : MethK K CD "become" "Desk.become" sBecome) (dsLong : MethK K CD "how_long" "Desk.how_long" sLong) (dsCount : MethK K CD "how_often" "Desk.how_often" sCount)
  (dsAt : MethK K CD "digit_at" "Desk.digit_at" sAt) (dsCuts : MethK K CD "cuts" "Desk.cuts" sCuts) (dsRInit : MethK K CR "__init__" "Reader.__init__" sRInit) (dsMore : MethK K CR "has_more" "Reader.has_more" sMore)
  (dsNum : MethK K CR "read_number" "Reader.read_number" sNum) (dsList : MethK K CR "read_list" "Reader.read_list" sList) :
  ∃ fd : FuncData, (∀ (s : Shared) (v : Value), BindsTo s fd ⟨[v], []⟩ [("calls", v)]) /\ ∀ base : Heap, K.In base -> base.Ns mainGlobals mg -> BMain base mg -> PySem.W.CodeHd base c1 t1 -> PySem.W.CodeHd base c2 t2 -> PySem.W.CodeHd base c3 t3 ->
   FnOk P w K mg base CX0 14 fa fd ["calls"] (spAnswers K t1 t2 t3) := by
 have none_ : ∀ {x : Str}, PySem.W.nsIn K mainGlobals x = some none -> mg x = none := fun e => PySem.W.mg_none_of X G e
 have at_ : ∀ {x : Str} {v : Value}, PySem.W.nsIn K mainGlobals x = some (some v) -> mg x = some v := fun e => PySem.W.mg_of X G e
 have TT : Txt K mg := ⟨none_ zlen, none_ zrange, none_ zlist, none_ zmin, none_ zmax, iLONGEST.gi X G, iMOST_SET.gi X G, iHIGHEST.gi X G⟩
 have TP : PTxt mg := ⟨none_ ztuple, iSIGHT.gi X G⟩
 have TK : KTxt K mg CP := ⟨kCP.cl, nCPknown, at_ kCP.ns⟩
 have TF : FTxt K mg CF := ⟨kCF.cl, nCFparting, nCFknown, at_ kCF.ns⟩
 have TD : DTxt K mg CD := ⟨kCD.cl, nCDdigits, nCDparting, nCDfuture, at_ kCD.ns, iMOST_DAYS.gi X G, iTOLD_BELOW.gi X G⟩
 have TR : RTxt K mg CR := ⟨kCR.cl, nCRnumbers, nCRplace, at_ kCR.ns⟩
 have O : OTxt K mg := ⟨iBEGIN.gi X G, iSET.gi X G, iROW.gi X G, iDAYS.gi X G, iBACK.gi X G, iLONG.gi X G, iCOUNT.gi X G, iAT.gi X G, iCUTS.gi X G⟩
 obtain ⟨fsRuns, fdsRuns, asRuns, FsRuns⟩ := dsRuns
 have DsRuns : Def K mg "runs" sRuns fsRuns fdsRuns ["row"] := ⟨FsRuns, at_ asRuns, FsRuns.binds fun _ _ _ _ _ _ us hl => match us, hl with | [_], _ => rfl⟩
 obtain ⟨fsReadRuns, fdsReadRuns, asReadRuns, FsReadRuns⟩ := dsReadRuns
 have DsReadRuns : Def K mg "read_runs" sReadRuns fsReadRuns fdsReadRuns ["found"] := ⟨FsReadRuns, at_ asReadRuns, FsReadRuns.binds fun _ _ _ _ _ _ us hl => match us, hl with | [_], _ => rfl⟩
 obtain ⟨fsAloud, fdsAloud, asAloud, FsAloud⟩ := dsAloud
 have DsAloud : Def K mg "read_aloud" sAloud fsAloud fdsAloud ["row"] := ⟨FsAloud, at_ asAloud, FsAloud.binds fun _ _ _ _ _ _ us hl => match us, hl with | [_], _ => rfl⟩
 obtain ⟨fsLater, fdsLater, asLater, FsLater⟩ := dsLater
 have DsLater : Def K mg "later" sLater fsLater fdsLater ["row", "days"] := ⟨FsLater, at_ asLater, FsLater.binds fun _ _ _ _ _ _ us hl => match us, hl with | [_, _], _ => rfl⟩
 obtain ⟨fsBefore, fdsBefore, asBefore, FsBefore⟩ := dsBefore
 have DsBefore : Def K mg "day_before" sBefore fsBefore fdsBefore ["row"] := ⟨FsBefore, at_ asBefore, FsBefore.binds fun _ _ _ _ _ _ us hl => match us, hl with | [_], _ => rfl⟩
 obtain ⟨fsMay, fdsMay, asMay, FsMay⟩ := dsMay
 have DsMay : Def K mg "may_be_set" sMay fsMay fdsMay ["digits"] := ⟨FsMay, at_ asMay, FsMay.binds fun _ _ _ _ _ _ us hl => match us, hl with | [_], _ => rfl⟩
 obtain ⟨fsPartAt, fdsPartAt, asPartAt, FsPartAt⟩ := dsPartAt
 have DsPartAt : Def K mg "part_at" sPartAt fsPartAt fdsPartAt ["parts", "lengths", "place"] := ⟨FsPartAt, at_ asPartAt, FsPartAt.binds fun _ _ _ _ _ _ us hl => match us, hl with | [_, _, _], _ => rfl⟩
 obtain ⟨fsBeg, fdsBeg, asBeg, FsBeg⟩ := dsBeg
 have DsBeg : Def K mg "beginning" sBeg fsBeg fdsBeg ["found", "whole"] := ⟨FsBeg, at_ asBeg, FsBeg.binds fun _ _ _ _ _ _ us hl => match us, hl with | [_, _], _ => rfl⟩
 obtain ⟨fsBegLater, fdsBegLater, asBegLater, FsBegLater⟩ := dsBegLater
 have DsBegLater : Def K mg "beginning_later" sBegLater fsBegLater fdsBegLater ["start"] := ⟨FsBegLater, at_ asBegLater, FsBegLater.binds fun _ _ _ _ _ _ us hl => match us, hl with | [_], _ => rfl⟩
 obtain ⟨fsFirst, fdsFirst, asFirst, FsFirst⟩ := dsFirst
 have DsFirst : Def K mg "first_digit" sFirst fsFirst fdsFirst ["start"] := ⟨FsFirst, at_ asFirst, FsFirst.binds fun _ _ _ _ _ _ us hl => match us, hl with | [_], _ => rfl⟩
 obtain ⟨fsFirsts, fdsFirsts, asFirsts, FsFirsts⟩ := dsFirsts
 have DsFirsts : Def K mg "first_digits" sFirsts fsFirsts fdsFirsts ["start"] := ⟨FsFirsts, at_ asFirsts, FsFirsts.binds fun _ _ _ _ _ _ us hl => match us, hl with | [_], _ => rfl⟩
 obtain ⟨fsMost, fdsMost, asMost, FsMost⟩ := dsMost
 have DsMost : Def K mg "counted_most" sMost fsMost fdsMost ["most"] := ⟨FsMost, at_ asMost, FsMost.binds fun _ _ _ _ _ _ us hl => match us, hl with | [_], _ => rfl⟩
 obtain ⟨fsGo, fdsGo, asGo, FsGo⟩ := dsGo
 have DsGo : Def K mg "may_go_by" sGo fsGo fdsGo ["d"] := ⟨FsGo, at_ asGo, FsGo.binds fun _ _ _ _ _ _ us hl => match us, hl with | [_], _ => rfl⟩
 obtain ⟨fsOne, fdsOne, asOne, FsOne⟩ := dsOne
 have DsOne : Def K mg "answer_one" sOne fsOne fdsOne ["desk", "reader"] := ⟨FsOne, at_ asOne, FsOne.binds fun _ _ _ _ _ _ us hl => match us, hl with | [_, _], _ => rfl⟩
 obtain ⟨fsAnswers, fdsAnswers, asAnswers, FsAnswers⟩ := dsAnswers
 have DsAnswers : Def K mg "answers" sAnswers fsAnswers fdsAnswers ["calls"] := ⟨FsAnswers, at_ asAnswers, FsAnswers.binds fun _ _ _ _ _ _ us hl => match us, hl with | [_], _ => rfl⟩
 obtain ⟨fsPInit, fdsPInit, MsPInit, FsPInit⟩ := dsPInit
 have DsPInit : MDef K CP "__init__" "Parting.__init__" sPInit fsPInit fdsPInit ["self"] := ⟨FsPInit, MsPInit, FsPInit.binds fun _ _ _ _ _ _ us hl => match us, hl with | [_], _ => rfl⟩
 obtain ⟨fsAhead, fdsAhead, MsAhead, FsAhead⟩ := dsAhead
 have DsAhead : MDef K CP "digits_ahead" "Parting.digits_ahead" sAhead fsAhead fdsAhead ["self", "start"] := ⟨FsAhead, MsAhead, FsAhead.binds fun _ _ _ _ _ _ us hl => match us, hl with | [_, _], _ => rfl⟩
 obtain ⟨fsPlaces, fdsPlaces, MsPlaces, FsPlaces⟩ := dsPlaces
 have DsPlaces : MDef K CP "places" "Parting.places" sPlaces fsPlaces fdsPlaces ["self", "row"] := ⟨FsPlaces, MsPlaces, FsPlaces.binds fun _ _ _ _ _ _ us hl => match us, hl with | [_, _], _ => rfl⟩
 obtain ⟨fsParts, fdsParts, MsParts, FsParts⟩ := dsParts
 have DsParts : MDef K CP "parts" "Parting.parts" sParts fsParts fdsParts ["self", "row"] := ⟨FsParts, MsParts, FsParts.binds fun _ _ _ _ _ _ us hl => match us, hl with | [_, _], _ => rfl⟩
 obtain ⟨fsFInit, fdsFInit, MsFInit, FsFInit⟩ := dsFInit
 have DsFInit : MDef K CF "__init__" "Future.__init__" sFInit fsFInit fdsFInit ["self", "parting"] := ⟨FsFInit, MsFInit, FsFInit.binds fun _ _ _ _ _ _ us hl => match us, hl with | [_, _], _ => rfl⟩
 obtain ⟨fsPLater, fdsPLater, MsPLater, FsPLater⟩ := dsPLater
 have DsPLater : MDef K CF "parts_later" "Future.parts_later" sPLater fsPLater fdsPLater ["self", "part"] := ⟨FsPLater, MsPLater, FsPLater.binds fun _ _ _ _ _ _ us hl => match us, hl with | [_, _], _ => rfl⟩
 obtain ⟨fsByDay, fdsByDay, MsByDay, FsByDay⟩ := dsByDay
 have DsByDay : MDef K CF "parts_by_day" "Future.parts_by_day" sByDay fsByDay fdsByDay ["self", "parts", "days"] := ⟨FsByDay, MsByDay, FsByDay.binds fun _ _ _ _ _ _ us hl => match us, hl with | [_, _, _], _ => rfl⟩
 obtain ⟨fsMDay, fdsMDay, MsMDay, FsMDay⟩ := dsMDay
 have DsMDay : MDef K CF "measured_by_day" "Future.measured_by_day" sMDay fsMDay fdsMDay ["self", "parts", "days", "measure"] := ⟨FsMDay, MsMDay, FsMDay.binds fun _ _ _ _ _ _ us hl => match us, hl with | [_, _, _, _], _ => rfl⟩
 obtain ⟨fsSums, fdsSums, MsSums, FsSums⟩ := dsSums
 have DsSums : MDef K CF "sums" "Future.sums" sSums fsSums fdsSums ["self", "parts", "next_day"] := ⟨FsSums, MsSums, FsSums.binds fun _ _ _ _ _ _ us hl => match us, hl with | [_, _, _], _ => rfl⟩
 obtain ⟨fsMeas, fdsMeas, MsMeas, FsMeas⟩ := dsMeas
 have DsMeas : MDef K CF "measured" "Future.measured" sMeas fsMeas fdsMeas ["self", "row", "days", "measure"] := ⟨FsMeas, MsMeas, FsMeas.binds fun _ _ _ _ _ _ us hl => match us, hl with | [_, _, _, _], _ => rfl⟩
 obtain ⟨fsLenL, fdsLenL, MsLenL, CsLenL⟩ := dsLenL
 have BsLenL : Binds K fdsLenL ["self", "row", "days"] [] := (CsLenL.fun MsLenL.kp).binds fun _ _ _ _ _ _ us hl => match us, hl with | [_, _, _], _ => rfl
 obtain ⟨fsOften, fdsOften, MsOften, CsOften⟩ := dsOften
 have BsOften : Binds K fdsOften ["self", "row", "days", "digit"] [] := (CsOften.fun MsOften.kp).binds fun _ _ _ _ _ _ us hl => match us, hl with | [_, _, _, _], _ => rfl
 obtain ⟨fsDigitL, fdsDigitL, MsDigitL, CsDigitL⟩ := dsDigitL
 have BsDigitL : Binds K fdsDigitL ["self", "row", "days", "place"] [] := (CsDigitL.fun MsDigitL.kp).binds fun _ _ _ _ _ _ us hl => match us, hl with | [_, _, _, _], _ => rfl
 obtain ⟨fsDInit, fdsDInit, MsDInit, FsDInit⟩ := dsDInit
 have DsDInit : MDef K CD "__init__" "Desk.__init__" sDInit fsDInit fdsDInit ["self"] := ⟨FsDInit, MsDInit, FsDInit.binds fun _ _ _ _ _ _ us hl => match us, hl with | [_], _ => rfl⟩
 obtain ⟨fsBegin, fdsBegin, MsBegin, FsBegin⟩ := dsBegin
 have DsBegin : MDef K CD "begin" "Desk.begin" sBegin fsBegin fdsBegin ["self"] := ⟨FsBegin, MsBegin, FsBegin.binds fun _ _ _ _ _ _ us hl => match us, hl with | [_], _ => rfl⟩
 obtain ⟨fsPut, fdsPut, MsPut, FsPut⟩ := dsPut
 have DsPut : MDef K CD "put" "Desk.put" sPut fsPut fdsPut ["self", "digits"] := ⟨FsPut, MsPut, FsPut.binds fun _ _ _ _ _ _ us hl => match us, hl with | [_, _], _ => rfl⟩
 obtain ⟨fsRow, fdsRow, MsRow, FsRow⟩ := dsRow
 have DsRow : MDef K CD "row" "Desk.row" sRow fsRow fdsRow ["self", "most"] := ⟨FsRow, MsRow, FsRow.binds fun _ _ _ _ _ _ us hl => match us, hl with | [_, _], _ => rfl⟩
 obtain ⟨fsDays, fdsDays, MsDays, FsDays⟩ := dsDays
 have DsDays : MDef K CD "days" "Desk.days" sDays fsDays fdsDays ["self", "d"] := ⟨FsDays, MsDays, FsDays.binds fun _ _ _ _ _ _ us hl => match us, hl with | [_, _], _ => rfl⟩
 obtain ⟨fsBack, fdsBack, MsBack, FsBack⟩ := dsBack
 have DsBack : MDef K CD "back" "Desk.back" sBack fsBack fdsBack ["self"] := ⟨FsBack, MsBack, FsBack.binds fun _ _ _ _ _ _ us hl => match us, hl with | [_], _ => rfl⟩
 obtain ⟨fsBecome, fdsBecome, MsBecome, FsBecome⟩ := dsBecome
 have DsBecome : MDef K CD "become" "Desk.become" sBecome fsBecome fdsBecome ["self", "digits"] := ⟨FsBecome, MsBecome, FsBecome.binds fun _ _ _ _ _ _ us hl => match us, hl with | [_, _], _ => rfl⟩
 obtain ⟨fsLong, fdsLong, MsLong, FsLong⟩ := dsLong
 have DsLong : MDef K CD "how_long" "Desk.how_long" sLong fsLong fdsLong ["self", "d"] := ⟨FsLong, MsLong, FsLong.binds fun _ _ _ _ _ _ us hl => match us, hl with | [_, _], _ => rfl⟩
 obtain ⟨fsCount, fdsCount, MsCount, FsCount⟩ := dsCount
 have DsCount : MDef K CD "how_often" "Desk.how_often" sCount fsCount fdsCount ["self", "d", "a"] := ⟨FsCount, MsCount, FsCount.binds fun _ _ _ _ _ _ us hl => match us, hl with | [_, _, _], _ => rfl⟩
 obtain ⟨fsAt, fdsAt, MsAt, FsAt⟩ := dsAt
 have DsAt : MDef K CD "digit_at" "Desk.digit_at" sAt fsAt fdsAt ["self", "d", "i"] := ⟨FsAt, MsAt, FsAt.binds fun _ _ _ _ _ _ us hl => match us, hl with | [_, _, _], _ => rfl⟩
 obtain ⟨fsCuts, fdsCuts, MsCuts, FsCuts⟩ := dsCuts
 have DsCuts : MDef K CD "cuts" "Desk.cuts" sCuts fsCuts fdsCuts ["self", "most"] := ⟨FsCuts, MsCuts, FsCuts.binds fun _ _ _ _ _ _ us hl => match us, hl with | [_, _], _ => rfl⟩
 obtain ⟨fsRInit, fdsRInit, MsRInit, FsRInit⟩ := dsRInit
 have DsRInit : MDef K CR "__init__" "Reader.__init__" sRInit fsRInit fdsRInit ["self", "numbers"] := ⟨FsRInit, MsRInit, FsRInit.binds fun _ _ _ _ _ _ us hl => match us, hl with | [_, _], _ => rfl⟩
 obtain ⟨fsMore, fdsMore, MsMore, FsMore⟩ := dsMore
 have DsMore : MDef K CR "has_more" "Reader.has_more" sMore fsMore fdsMore ["self"] := ⟨FsMore, MsMore, FsMore.binds fun _ _ _ _ _ _ us hl => match us, hl with | [_], _ => rfl⟩
 obtain ⟨fsNum, fdsNum, MsNum, FsNum⟩ := dsNum
 have DsNum : MDef K CR "read_number" "Reader.read_number" sNum fsNum fdsNum ["self"] := ⟨FsNum, MsNum, FsNum.binds fun _ _ _ _ _ _ us hl => match us, hl with | [_], _ => rfl⟩
 obtain ⟨fsList, fdsList, MsList, FsList⟩ := dsList
 have DsList : MDef K CR "read_list" "Reader.read_list" sList fsList fdsList ["self"] := ⟨FsList, MsList, FsList.binds fun _ _ _ _ _ _ us hl => match us, hl with | [_], _ => rfl⟩
 have e := hfa.symm.trans DsAnswers.mg
 cases e
 refine ⟨fdsAnswers, fun s v => ?_, fun base kb nb B H1 H2 H3 => ?_⟩
 ·obtain ⟨oc, od, kV, doc, pm, an, cdv, ct, osl, rfl, lk, hcd⟩ := FsAnswers.ex
  exact .of_eq rfl
 ·let W : Wd := ⟨P, w, CD, CF, CP⟩
  have gAloud : FnOk P w K mg base CX0 2 _ _ _ _ := ok_aloud DsAloud TT DsRuns DsReadRuns
  have gLater : FnOk P w K mg base CX0 3 _ _ _ _ := ok_later DsLater TT gAloud DsAloud
  have gMay : FnOk P w K mg base CX0 2 _ _ _ _ := ok_may DsMay TT DsRuns
  have gFirsts : FnOk P w K mg base CX0 3 _ _ _ _ := ok_firsts DsFirsts TT TP DsFirst DsBegLater DsRuns DsReadRuns DsBeg
  have gPInit : FnOk P w K mg base CX0 1 _ _ _ _ := ok_pinit FsPInit TK
  have gAhead : FnOk P w K mg base CX0 4 _ _ _ _ := ok_ahead FsAhead TK DsFirsts gFirsts
  have gPlaces : FnOk P w K mg base CX0 5 _ _ _ _ := ok_places FsPlaces TK TT TP DsRuns DsBeg DsAhead gAhead
  have gParts : FnOk P w K mg base CX0 6 _ _ _ _ := ok_parts FsParts TK TT TP DsPlaces gPlaces
  have gFInit : FnOk P w K mg base CX0 1 _ _ _ (spFInit P w CF CP) := ok_finit FsFInit TF
  have gPLater : FnOk P w K mg base CX0 7 _ _ _ _ := ok_plater FsPLater TF TK DsAloud (gAloud.mono (by decide)) DsParts gParts
  have gByDay : FnOk P w K mg base CX0 8 _ _ _ _ := ok_byday FsByDay TF TT (none_ zdict) DsPLater gPLater
  have gSums : FnOk P w K mg base CX0 8 _ _ _ _ := ok_sums FsSums TF (none_ zsum) DsPLater gPLater
  have gMDay : FnOk P w K mg base CX0 9 _ _ _ _ := ok_mday FsMDay TF TT (none_ zdict) DsByDay gByDay DsSums gSums
  have gMeas : FnOk P w K mg base CX0 10 _ _ _ _ := ok_meas FsMeas TF TK (none_ zsum) DsParts (gParts.mono (by decide)) DsMDay gMDay
  have gLenL : FnOk P w K mg base CX0 11 _ _ _ _ := ok_lenl CsLenL TF H1 B DsMeas gMeas
  have gOften : FnOk P w K mg base CX0 11 _ _ _ _ := ok_often CsOften TF H2 B DsMeas gMeas
  have gPartAt : FnOk P w K mg base CX0 8 _ _ _ _ := ok_partat FsPartAt
  have gDigitL : FnOk P w K mg base CX0 11 _ _ _ _ := ok_digitl CsDigitL TF TK TT H3 B DsParts (gParts.mono (by decide)) DsMDay (gMDay.mono (by decide)) DsPLater (gPLater.mono (by decide)) DsPartAt (gPartAt.mono (by decide))
  have gDInit : FnOk P w K mg base CX0 3 _ _ _ (spDInit W t1 t2 t3) := ok_dinit (W := W) FsDInit TD TK TF ⟨kCP.mks, MsPInit.at_, MsPInit.fn, kCP.kp⟩ ⟨kCF.mks, MsFInit.at_, MsFInit.fn, kCF.kp⟩ DsPInit.b DsFInit.b gPInit gFInit
  have gBegin : FnOk P w K mg base CX0 1 _ _ _ (spBegin W) := ok_begin (W := W) FsBegin TD
  have gPut : FnOk P w K mg base CX0 3 _ _ _ (spPut W K) := ok_put (W := W) FsPut TD TT DsMay gMay
  have gRow : FnOk P w K mg base CX0 2 _ _ _ (spRow W) := ok_row (W := W) FsRow TD TT DsMost
  have gDays : FnOk P w K mg base CX0 4 _ _ _ (spDays W) := ok_days (W := W) FsDays TD TT DsBecome DsLater gLater DsGo
  have gBack : FnOk P w K mg base CX0 2 _ _ _ (spBack W) := ok_back (W := W) FsBack TD TT DsBecome DsBefore
  have gLong : FnOk P w K mg base CX0 12 _ _ _ (spLong W t1) := ok_long (W := W) FsLong TD TF DsGo MsLenL BsLenL gLenL
  have gCount : FnOk P w K mg base CX0 12 _ _ _ (spCount W t2) := ok_count (W := W) FsCount TD TT TF DsGo MsOften BsOften gOften
  have gAt : FnOk P w K mg base CX0 12 _ _ _ (spAt W t3) := ok_at (W := W) FsAt TD TF DsGo MsDigitL BsDigitL gDigitL
  have gCuts : FnOk P w K mg base CX0 12 _ _ _ (spCuts W) := ok_cuts (W := W) FsCuts TD TT TK DsMost DsPlaces (gPlaces.mono (by decide))
  have gRInit : FnOk P w K mg base CX0 1 _ _ _ _ := ok_rinit FsRInit TR
  have gMore : FnOk P w K mg base CX0 1 _ _ _ _ := ok_more FsMore TR TT
  have gNum : FnOk P w K mg base CX0 1 _ _ _ _ := ok_num FsNum TR
  have gList : FnOk P w K mg base CX0 2 _ _ _ _ := ok_list FsList TR DsNum
  have gOne : FnOk P w K mg base CX0 13 _ _ _ (spOne W K CR t1 t2 t3) := ok_one (W := W) DsOne TD TR O DsBegin (gBegin.mono (by decide)) DsPut (gPut.mono (by decide)) DsRow (gRow.mono (by decide)) DsDays (gDays.mono (by decide)) DsBack (gBack.mono (by decide)) DsLong (gLong.mono (by decide)) DsCount (gCount.mono (by decide)) DsAt (gAt.mono (by decide)) DsCuts (gCuts.mono (by decide)) DsNum (gNum.mono (by decide)) DsList (gList.mono (by decide))
  exact ok_answers (W := W) DsAnswers TD TR TT ⟨kCD.mks, MsDInit.at_, MsDInit.fn, kCD.kp⟩ DsDInit.b (gDInit.mono (by decide)) ⟨kCR.mks, MsRInit.at_, MsRInit.fn, kCR.kp⟩ DsRInit.b (gRInit.mono (by decide)) DsMore (gMore.mono (by decide)) DsOne gOne
theorem ask {args : List PySem.W.WData} (h : PySem.Challenge.rw_readaloud_s01_answers.pre args = true) :
  ∃ ns : List Int, args = [PySem.W.WData.list (ns.map PySem.W.WData.int)] /\ ns.length <= 16000 /\ PyRc75.answers_asked ns = true /\ PySem.Challenge.rw_readaloud_s01_answers.post args (.list ((PyRc75.answers ns).map PySem.W.WData.int)) = true := by
 unfold PySem.W.OpenSpec.pre at h
 cases e : PySem.W.Codec.decAll PySem.Challenge.rw_readaloud_s01_answers.args args with
 | none => rw [e] at h; cases h
 | some a =>
  rw [e] at h
  obtain ⟨e1, e2⟩ := PySem.W.Codec.encAll_of_decAll _ _ _ e
  obtain ⟨ns, u⟩ := a
  have e3 : ((decide (0 <= ns.length) && decide (ns.length <= 16000)) && ns.all (PySem.W.Codec.inInt (Int.negSucc 2147483647) (Int.ofNat 18446744073709551615)) && true) = true := e2
  simp only [Bool.and_eq_true, decide_eq_true_eq] at e3
  refine ⟨ns, e1, e3.1.1.2, h, ?_⟩
  unfold PySem.W.OpenSpec.post
  rw [e]
  exact PySem.W.same_self _
theorem walk_ans {q : Program} {loose : List Str} {XP : (Str -> Option Value) -> Heap -> Prop} {YP : World -> Heap -> Prop} {d : DefRec} {K : Params -> PySem.W.Frag} {c1 c2 c3 t1 t2 t3 : Addr} (hdf : d.params.defaults = []) (ne : t1 ≠ t2 /\ t1 ≠ t3 /\ t2 ≠ t3)
  (hY : ∀ (w : World) (h : Heap), YP w h -> (K w.params).In h /\ ∀ t ∈ [t1, t2, t3], h.get? t = some (PySem.W.tabObj #[]))
  (hC : ∀ w : World, (PySem.W.codeHdIn (K w.params) c1 t1 = true /\ PySem.W.codeHdIn (K w.params) c2 t2 = true /\ PySem.W.codeHdIn (K w.params) c3 t3 = true) /\ (K w.params).lookup t1 = none /\ (K w.params).lookup t2 = none /\ (K w.params).lookup t3 = none)
  (F : ∀ (w : World) (mg : Str -> Option Value) (fa : Addr) (h : Heap), (K w.params).In h -> h.Ns mainGlobals mg -> mg d.name = some (.ref fa) ->
   ∃ fd : FuncData, (∀ (s : Shared) (u : Value), BindsTo s fd ⟨[u], []⟩ [("calls", u)]) /\
    ∀ base : Heap, (K w.params).In base -> base.Ns mainGlobals mg -> BMain base mg -> PySem.W.CodeHd base c1 t1 -> PySem.W.CodeHd base c2 t2 -> PySem.W.CodeHd base c3 t3 -> FnOk PySem.Challenge.rw_readaloud_s01_answers.prog w (K w.params) mg base CX0 14 fa fd ["calls"] (spAnswers (K w.params) t1 t2 t3)) :
  PySem.W.WalkOS q loose XP YP PySem.Challenge.rw_readaloud_s01_answers d [] (fun f vs => PySem.call f vs) :=
 walk_specT (r := PySem.Challenge.rw_readaloud_s01_answers) (n := 16000) (k := 14) (x := "calls") (sp := fun K => spAnswers K t1 t2 t3) (f := PyRc75.answers) (asked := fun ns => PyRc75.answers_asked ns = true) (fun _ => ask) (by decide) hdf ⟨rfl, by decide, by decide⟩ hY hC F
  fun K H a ns _ ha hS hT => by
   obtain ⟨cs, L⟩ := line_of ha
   exact ⟨a, ns, cs, rfl, hS, L, ⟨.inl (hT t1 (.inl rfl)), .inl (hT t2 (.inr (.inl rfl))), .inl (hT t3 (.inr (.inr rfl))), ne⟩, fun r H' h => ⟨r, rfl, h⟩⟩
end RA
end
section
def PySem.W.Fast.tw3508843751411853752 := ()
def PySem.W.Fast.tw7072493217239671762 := ()
def PySem.W.Fast.tw5065719231312823826 := ()
def PySem.W.Fast.tw4165413835355428960 := ()
def PySem.W.Fast.tw16003935230528679696 := ()
def PySem.W.Fast.tw1561164347746713395 := ()
def PySem.W.Fast.tw3829330815520489097 := ()
def PySem.W.Fast.tw8066176434872138593 := ()
def PySem.W.Fast.tw5149337235782672004 := ()
def PySem.W.Fast.tw12680466727218511490 := ()
def PySem.W.Fast.tw9676155006084281768 := ()
def PySem.W.Fast.tw17663093713915812817 := ()
def PySem.W.Fast.tw8881235996041165034 := ()
open PySem PySem.W PyProof.Rows
local macro_rules | `(tactic| o_headS ($_f:ident $k $a $e)) => `(tactic| o_headS (PySem.W.kmHook $k $a $e [104, 111, 118]))
set_option pp.maxSteps 300 in
set_option maxRecDepth 100000 in
set_option maxHeartbeats 0 in
theorem PySem.Challenge.cw_readaloud_s01_answers_holds : PySem.Challenge.rw_readaloud_s01_answers.Holds := by
 w_on; k_headS; (case hw => exact ⟨[.list []], by decide +kernel, by decide +kernel⟩)
 k_fillS
 refine RA.walk_ans (c1 := 108) (c2 := 115) (c3 := 122) (t1 := 104) (t2 := 111) (t3 := 118) rfl (by decide) (fun w h Y => ⟨PySem.W.km_in_of Y, PySem.W.km_tabs_of Y⟩) ?C ?F
 case C => exact fun w => ⟨⟨by kernel_rfl, by kernel_rfl, by kernel_rfl⟩, by kernel_rfl, by kernel_rfl, by kernel_rfl⟩
 case F =>
  intro w mg fa h KX G hmg
  refine' RA.all_ok KX G hmg ?_ ?_ ?_ ?_ ?_ ?_ ?_ ?_ ?_ ?_ ?_ ?_ ?_ ?_ ?_ ?_ ?_ ?_ ?_ ?_ ?_ ?_ ?_ ?_ ?_ ?_ ?_ ?_ ?_ ?_ ?_ ?_ ?_ ?_ ?_ ?_ ?_ ?_ ?_ ?_ ?_ ?_ ?_ ?_ ?_ ?_ ?_ ?_ ?_ ?_ ?_ ?_ ?_ ?_ ?_ ?_ ?_ ?_ ?_ ?_ ?_ ?_ ?_ ?_ ?_ ?_ ?_ ?_ ?_ ?_ ?_ ?_ ?_ ?_ ?_ ?_ ?_ ?_
  all_goals try first
   | k_is
   | (unfold L2.NoAttr; k_is)
   | (refine' RA.intk ?_ <;> try k_is)
   | (refine' RA.defk ?_ ?_ ?_ ?_ <;> try k_is)
   | (refine' RA.methk ?_ ?_ ?_ ?_ ?_ <;> try k_is)
   | (refine' RA.methc ?_ ?_ ?_ ?_ ?_ <;> try k_is)
   | (refine' RA.ClsK.mk ?_ (L2.Cls.mk ?_ ?_ ?_ ?_) ?_ ?_ <;> try k_is)
end
