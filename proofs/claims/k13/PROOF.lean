import PyProof.Rows.All
import Wide.All
import OpenK.AllK
import Wide.FinOn
import HandS.ForMost
import HandS.Set
import HandS.Exc
import HandS.Style
import HandS.Wide
import HandS.Flow
import KE.KDictKeyed
import HandS.TupLen
import KE.SortData
import KE.SortLaws
import HandS.Conv
import HandS.DictComp
import HandS.IsInst
import HandS.Property
import HandS.TupLe
import HandS.Iter
import PyProof.ReprRoads
import PyProof.ReprLen
import PyProof.Rows.StrJoinRep
import PyProof.InstNe
import KE.KOpsOwn
import HandS.TryOnly
import HandS.More
import HandS.SetBool
import HandS.Comp
import HandS.SetFor
import HandS.ExcOwn
import HandS.WordsExc
import HandS.ExcInit
import HandS.ExcField
import HandS.ExcIs
import KE.KExcIs
import PySem.Challenge.RW_emptyfirst_k13_plain_services
set_option Elab.async false
set_option linter.all false
set_option maxRecDepth 100000
set_option maxHeartbeats 4000000
namespace DL
open PySem L2 PySem.Spec PyProof.Rows

/-! ### sets of texts -/
def txtOf (e : Int × Value) : Str := match e.2 with
  | .str k _ => k
  | _ => ""
def TxtE (w : World) (e : Int × Value) : Prop := ∃ k t, e = (hashStr w k, Value.str k t)
/-- the set at a has these texts, in the order of its table -/
structure TxtSet (w : World) (h : Heap) (a : Addr) (ks : List Str) : Prop where
  ex : ∃ o es ep t, h.get? a = some o ∧ o.ExactSet ∧ o.data = .set es ep t ∧ (∀ e ∈ es.toList, TxtE w e) ∧ ks = es.toList.map txtOf ∧ ks.Nodup ∧ es.size < scanBound ∧ t.fits es.size = true ∧ Ris t.place.toList ∧ (w.params.followText "set-order" = true ∨ t.led = true)
/-- as a tracked thing -/
def TxtO (w : World) (a : Addr) (ks : List Str) : HO := .ext fun h => TxtSet w h a ks
end DL

namespace DL
open PySem L2

/-! ### data trees -/
inductive T where
  | non | bl (b : Bool) | int (i : Int) | str (x : Str)
  | lst (ts : List T) | tup (ts : List T)
  | obj (C : Addr) (ns : List Str) (ts : List T)
  | raw (v : V)
  | rl (ts : List T)
  | dN (ks vs : List T) | dK (ks : List Key) (vs : List T)

def Ex (H H' : Hp) : Prop := ∀ a o, H a = some o → H' a = some o
theorem Ex.refl (H : Hp) : Ex H H := fun _ _ h => h
theorem Ex.trans {H H1 H2 : Hp} (a : Ex H H1) (b : Ex H1 H2) : Ex H H2 := fun x o h => b x o (a x o h)
theorem Ex.new {H : Hp} {p : Addr} {o : HO} (h : H p = none) : Ex H (upd H p o) := fun a u e => by
  rw [upd_ne (ne_of_none e h)]; exact e
theorem Ex.fresh {H H' : Hp} {p : Addr} (e : Ex H H') (h : H' p = none) : H p = none := by
  cases h1 : H p with
  | none => rfl
  | some o => rw [e p o h1] at h; cases h
theorem Ex.upd2 {F H : Hp} {p : Addr} {o : HO} (e : Ex F H) (h : F p = none) : Ex F (upd H p o) := fun a u ha => by
  rw [upd_ne (ne_of_none ha h)]; exact e a u ha
theorem Ex.both {F H : Hp} {p : Addr} {o : HO} (e : Ex F H) : Ex (upd F p o) (upd H p o) := fun a u ha => by
  by_cases h : a = p
  · subst h; rw [upd_same] at ha ⊢; exact ha
  · rw [upd_ne h] at ha ⊢; exact e a u ha
theorem Ex.in1 {F H : Hp} {p : Addr} {o : HO} (e : Ex F H) (h : H p = some o) : Ex (upd F p o) H := fun a u ha => by
  by_cases q : a = p
  · subst q; rw [upd_same] at ha; cases ha; exact h
  · rw [upd_ne q] at ha; exact e a u ha
theorem Ex.rd {H H' : Hp} {a : Addr} {u : HO} (e : Ex H H') (h : Rd H a u) : Rd H' a u := by
  rcases h with h | ⟨o, h⟩
  · exact .inl (e a _ h)
  · exact .inr ⟨o, e a _ h⟩
theorem Ex.sql {K : PySem.W.Frag} {H H' : Hp} {a : Addr} {xs : List V} (e : Ex H H') (h : SqL K H a xs) : SqL K H' a xs := by
  rcases h with h | h
  · exact .inl (e.rd h)
  · exact .inr h
theorem Ex.sqt {K : PySem.W.Frag} {H H' : Hp} {a : Addr} {xs : List V} (e : Ex H H') (h : SqT K H a xs) : SqT K H' a xs := by
  rcases h with h | h
  · exact .inl (e.rd h)
  · exact .inr h

/-- what is fixed through a law: the program, the world, the written part -/
structure Bs where
  P : Program
  w : World
  K : PySem.W.Frag
/-- a dict whose keys are tuples (of numbers, texts, None, tuples): the key, the key's object, the value -/
def hoN (B : Bs) (a : Addr) (es : List (NestedKey × Addr × V)) : HO := .ext fun h => es.length ≤ sizeLine ∧ (a == sysModules) = false ∧ (∀ e ∈ es, e.1.depth ≤ 8) ∧
  ∃ xs : List (NestedKey × Addr × Value), Paired (fun (p : NestedKey × Addr × V) (q : NestedKey × Addr × Value) => p.1 = q.1 ∧ p.2.1 = q.2.1 ∧ RelV p.2.2 q.2.2) es xs ∧
  ∃ o es' ep, h.get? a = some o ∧ o.ExactDict ∧ o.data = .dict es' ep ∧ es'.toList = xs.map (entryOfKey (nestedKind B.P B.w)) ∧ (xs.map (·.1)).Nodup
mutual
/-- the tree as a key -/
def T.nk : T → Option NestedKey
  | .non => some .none
  | .bl b => some (.num (if b then 1 else 0))
  | .int i => some (.num i)
  | .str x => some (.text x)
  | .tup ts => (T.nks ts).map .tup
  | _ => none
def T.nks : List T → Option (List NestedKey)
  | [] => some []
  | t :: ts => match T.nk t, T.nks ts with
    | some d, some ds => some (d :: ds)
    | _, _ => none
end
/-! ### a value bears a tree, in the frozen part F of the heap -/
mutual
def DV (B : Bs) (F : Hp) : V → T → Prop
  | v, .non => v = .non
  | v, .bl b => v = .bl b
  | v, .int i => v = .int i
  | v, .str x => v = .str x
  | v, .lst ts => ∃ a xs, v = .ref a ∧ F a = some (.lst xs) ∧ DVs B F xs ts
  | v, .rl ts => ∃ a xs, v = .ref a ∧ SqL B.K F a xs ∧ DVs B F xs ts
  | v, .tup ts => ∃ a xs, v = .ref a ∧ SqT B.K F a xs ∧ DVs B F xs ts
  | v, .obj C ns ts => ∃ a dx fs, v = .ref a ∧ F a = some (.ins C dx fs) ∧ fs.map (·.1) = ns ∧ DVs B F (fs.map (·.2)) ts
  | v, .raw u => v = u
  | v, .dN ks vs => ∃ a es, v = .ref a ∧ F a = some (hoN B a es) ∧ T.nks ks = some (es.map (·.1)) ∧ DVs B F (es.map fun e => .ref e.2.1) ks ∧ DVs B F (es.map fun e => e.2.2) vs
  | v, .dK ks vs => ∃ a kvs, v = .ref a ∧ F a = some (.dK kvs) ∧ kvs.map (·.1) = ks ∧ DVs B F (kvs.map (·.2)) vs
def DVs (B : Bs) (F : Hp) : List V → List T → Prop
  | vs, [] => vs = []
  | vs, t :: ts => ∃ v r, vs = v :: r ∧ DV B F v t ∧ DVs B F r ts
end
section
variable {B : Bs} {F F' H : Hp}
mutual
theorem DV.mono (e : Ex F F') : ∀ (t : T) (v : V), DV B F v t → DV B F' v t
  | .non, _, h => by simp only [DV] at h ⊢; exact h
  | .bl _, _, h => by simp only [DV] at h ⊢; exact h
  | .int _, _, h => by simp only [DV] at h ⊢; exact h
  | .str _, _, h => by simp only [DV] at h ⊢; exact h
  | .raw _, _, h => by simp only [DV] at h ⊢; exact h
  | .lst ts, _, h => by
    simp only [DV] at h ⊢
    obtain ⟨a, xs, e1, h1, h2⟩ := h
    exact ⟨a, xs, e1, e _ _ h1, DVs.mono e ts xs h2⟩
  | .rl ts, _, h => by
    simp only [DV] at h ⊢
    obtain ⟨a, xs, e1, h1, h2⟩ := h
    exact ⟨a, xs, e1, e.sql h1, DVs.mono e ts xs h2⟩
  | .tup ts, _, h => by
    simp only [DV] at h ⊢
    obtain ⟨a, xs, e1, h1, h2⟩ := h
    exact ⟨a, xs, e1, e.sqt h1, DVs.mono e ts xs h2⟩
  | .obj C ns ts, _, h => by
    simp only [DV] at h ⊢
    obtain ⟨a, dx, fs, e1, h1, h2, h3⟩ := h
    exact ⟨a, dx, fs, e1, e _ _ h1, h2, DVs.mono e ts _ h3⟩
  | .dN ks vs, _, h => by
    simp only [DV] at h ⊢
    obtain ⟨a, es, e1, h1, h2, h3, h4⟩ := h
    exact ⟨a, es, e1, e _ _ h1, h2, DVs.mono e ks _ h3, DVs.mono e vs _ h4⟩
  | .dK ks vs, _, h => by
    simp only [DV] at h ⊢
    obtain ⟨a, kvs, e1, h1, h2, h3⟩ := h
    exact ⟨a, kvs, e1, e _ _ h1, h2, DVs.mono e vs _ h3⟩
theorem DVs.mono (e : Ex F F') : ∀ (ts : List T) (vs : List V), DVs B F vs ts → DVs B F' vs ts
  | [], _, h => by simp only [DVs] at h ⊢; exact h
  | t :: ts, _, h => by
    simp only [DVs] at h ⊢
    obtain ⟨v, r, e1, h1, h2⟩ := h
    exact ⟨v, r, e1, DV.mono e t v h1, DVs.mono e ts r h2⟩
end
theorem DVs.nil : DVs B F [] [] := by simp only [DVs]
theorem DVs.cons {v : V} {t : T} {vs : List V} {ts : List T} (h : DV B F v t) (hs : DVs B F vs ts) : DVs B F (v :: vs) (t :: ts) := by
  simp only [DVs]; exact ⟨v, vs, rfl, h, hs⟩
theorem DVs.uncons {v : V} {t : T} {vs : List V} {ts : List T} (h : DVs B F (v :: vs) (t :: ts)) : DV B F v t ∧ DVs B F vs ts := by
  simp only [DVs] at h
  obtain ⟨_, _, e, h1, h2⟩ := h
  cases e; exact ⟨h1, h2⟩
theorem DVs.length : ∀ {ts : List T} {vs : List V}, DVs B F vs ts → vs.length = ts.length
  | [], _, h => by simp only [DVs] at h; subst h; rfl
  | t :: ts, _, h => by
    simp only [DVs] at h
    obtain ⟨v, r, e, _, h2⟩ := h
    rw [e, List.length_cons, List.length_cons, DVs.length h2]
theorem DVs.get : ∀ {ts : List T} {vs : List V} {i : Nat} {t : T}, DVs B F vs ts → ts[i]? = some t → ∃ v, vs[i]? = some v ∧ DV B F v t
  | [], _, _, _, _, e => by simp at e
  | u :: ts, _, 0, t, h, e => by
    simp only [DVs] at h
    obtain ⟨v, r, rfl, h1, _⟩ := h
    simp at e; subst e; exact ⟨v, rfl, h1⟩
  | u :: ts, _, i + 1, t, h, e => by
    simp only [DVs] at h
    obtain ⟨v, r, rfl, _, h2⟩ := h
    obtain ⟨w, e1, e2⟩ := DVs.get (i := i) h2 (by simpa using e)
    exact ⟨w, by simpa using e1, e2⟩
theorem DVs.get' : ∀ {ts : List T} {vs : List V} {i : Nat} {v : V}, DVs B F vs ts → vs[i]? = some v → ∃ t, ts[i]? = some t ∧ DV B F v t
  | [], _, _, _, h, e => by simp only [DVs] at h; subst h; simp at e
  | u :: ts, _, 0, v, h, e => by
    simp only [DVs] at h
    obtain ⟨w, r, rfl, h1, _⟩ := h
    simp at e; subst e; exact ⟨u, rfl, h1⟩
  | u :: ts, _, i + 1, v, h, e => by
    simp only [DVs] at h
    obtain ⟨w, r, rfl, _, h2⟩ := h
    obtain ⟨t, e1, e2⟩ := DVs.get' (i := i) h2 (by simpa using e)
    exact ⟨t, by simpa using e1, e2⟩
theorem DVs.append : ∀ {ts : List T} {vs : List V} {ts' : List T} {vs' : List V}, DVs B F vs ts → DVs B F vs' ts' → DVs B F (vs ++ vs') (ts ++ ts')
  | [], _, _, _, h, h' => by simp only [DVs] at h; subst h; exact h'
  | t :: ts, _, _, _, h, h' => by
    simp only [DVs] at h
    obtain ⟨v, r, rfl, h1, h2⟩ := h
    exact .cons h1 (DVs.append h2 h')
theorem DVs.snoc {ts : List T} {vs : List V} {t : T} {v : V} (h : DVs B F vs ts) (h' : DV B F v t) : DVs B F (vs ++ [v]) (ts ++ [t]) := h.append (.cons h' .nil)
theorem DVs.take : ∀ {ts : List T} {vs : List V} (n : Nat), DVs B F vs ts → DVs B F (vs.take n) (ts.take n)
  | _, _, 0, _ => by simp only [List.take_zero]; exact .nil
  | [], _, n + 1, h => by simp only [DVs] at h; subst h; exact .nil
  | t :: ts, _, n + 1, h => by
    simp only [DVs] at h
    obtain ⟨v, r, rfl, h1, h2⟩ := h
    exact .cons h1 (DVs.take n h2)
theorem DVs.drop : ∀ {ts : List T} {vs : List V} (n : Nat), DVs B F vs ts → DVs B F (vs.drop n) (ts.drop n)
  | _, _, 0, h => h
  | [], _, n + 1, h => by simp only [DVs] at h; subst h; exact .nil
  | t :: ts, _, n + 1, h => by
    simp only [DVs] at h
    obtain ⟨v, r, rfl, h1, h2⟩ := h
    exact DVs.drop n h2
theorem DVs.set : ∀ {ts : List T} {vs : List V} (n : Nat) {t : T} {v : V}, DVs B F vs ts → DV B F v t → DVs B F (vs.set n v) (ts.set n t)
  | [], _, n, _, _, h, _ => by simp only [DVs] at h; subst h; exact .nil
  | t :: ts, _, 0, _, _, h, h' => by
    simp only [DVs] at h
    obtain ⟨v, r, rfl, h1, h2⟩ := h
    exact .cons h' h2
  | t :: ts, _, n + 1, _, _, h, h' => by
    simp only [DVs] at h
    obtain ⟨v, r, rfl, h1, h2⟩ := h
    exact .cons h1 (DVs.set n h2 h')
theorem DVs.reverse {ts : List T} {vs : List V} (h : DVs B F vs ts) : DVs B F vs.reverse ts.reverse := by
  induction ts generalizing vs with
  | nil => simp only [DVs] at h; subst h; exact .nil
  | cons t ts ih =>
    simp only [DVs] at h
    obtain ⟨v, r, rfl, h1, h2⟩ := h
    rw [List.reverse_cons, List.reverse_cons]
    exact (ih h2).snoc h1
theorem DV.lst_ {a : Addr} {xs : List V} {ts : List T} (h : F a = some (.lst xs)) (hs : DVs B F xs ts) : DV B F (.ref a) (.lst ts) := by simp only [DV]; exact ⟨a, xs, rfl, h, hs⟩
theorem DV.tup_ {a : Addr} {xs : List V} {ts : List T} (h : SqT B.K F a xs) (hs : DVs B F xs ts) : DV B F (.ref a) (.tup ts) := by simp only [DV]; exact ⟨a, xs, rfl, h, hs⟩
end

/-! ### plain data: without instances -/
mutual
def T.py : T → Option PyData
  | .non => some .none
  | .bl b => some (.bool b)
  | .int i => some (.int i)
  | .str x => some (.str x)
  | .lst ts => (T.pys ts).map .list
  | .tup ts => (T.pys ts).map .tuple
  | .obj _ _ _ => none
  | .dN _ _ => none
  | .dK _ _ => none
  | .raw _ => none
  | .rl ts => (T.pys ts).map .list
def T.pys : List T → Option (List PyData)
  | [] => some []
  | t :: ts => match T.py t, T.pys ts with
    | some d, some ds => some (d :: ds)
    | _, _ => none
end
section
variable {B : Bs} {F : Hp}
mutual
theorem DV.dp : ∀ (t : T) (v : V) (d : PyData), DV B F v t → t.py = some d → Dp B.K F v d
  | .non, _, _, h, e => by simp only [DV] at h; subst h; simp only [T.py] at e; cases e; exact .non
  | .bl b, _, _, h, e => by simp only [DV] at h; subst h; simp only [T.py] at e; cases e; exact .bl b
  | .int i, _, _, h, e => by simp only [DV] at h; subst h; simp only [T.py] at e; cases e; exact .int i
  | .str x, _, _, h, e => by simp only [DV] at h; subst h; simp only [T.py] at e; cases e; exact .str x
  | .raw _, _, _, _, e => by simp only [T.py] at e; cases e
  | .obj _ _ _, _, _, _, e => by simp only [T.py] at e; cases e
  | .dN _ _, _, _, _, e => by simp only [T.py] at e; cases e
  | .dK _ _, _, _, _, e => by simp only [T.py] at e; cases e
  | .lst ts, _, _, h, e => by
    simp only [DV] at h
    obtain ⟨a, xs, rfl, h1, h2⟩ := h
    simp only [T.py, Option.map_eq_some_iff] at e
    obtain ⟨ds, e1, rfl⟩ := e
    exact .lst (SqL.of h1) (DVs.dp ts xs ds h2 e1)
  | .rl ts, _, _, h, e => by
    simp only [DV] at h
    obtain ⟨a, xs, rfl, h1, h2⟩ := h
    simp only [T.py, Option.map_eq_some_iff] at e
    obtain ⟨ds, e1, rfl⟩ := e
    exact .lst h1 (DVs.dp ts xs ds h2 e1)
  | .tup ts, _, _, h, e => by
    simp only [DV] at h
    obtain ⟨a, xs, rfl, h1, h2⟩ := h
    simp only [T.py, Option.map_eq_some_iff] at e
    obtain ⟨ds, e1, rfl⟩ := e
    exact .tup h1 (DVs.dp ts xs ds h2 e1)
theorem DVs.dp : ∀ (ts : List T) (vs : List V) (ds : List PyData), DVs B F vs ts → T.pys ts = some ds → DpAll B.K F vs ds
  | [], _, _, h, e => by simp only [DVs] at h; subst h; simp only [T.pys] at e; cases e; exact .nil
  | t :: ts, _, _, h, e => by
    simp only [DVs] at h
    obtain ⟨v, r, rfl, h1, h2⟩ := h
    simp only [T.pys] at e
    split at e
    · rename_i d ds e1 e2
      cases e
      exact .cons (DV.dp t v d h1 e1) (DVs.dp ts r ds h2 e2)
    · cases e
end
end
mutual
theorem Dp.mono {K : PySem.W.Frag} {F F' : Hp} (e : Ex F F') : ∀ (d : PyData) (v : V), Dp K F v d → Dp K F' v d
  | .none, _, h => by cases h; exact .non
  | .bool _, _, h => by cases h; exact .bl _
  | .int _, _, h => by cases h; exact .int _
  | .str _, _, h => by cases h; exact .str _
  | .list ds, _, h => by
    cases h with
    | lst h1 h2 => exact .lst (e.sql h1) (DpAll.mono e ds _ h2)
  | .tuple ds, _, h => by
    cases h with
    | tup h1 h2 => exact .tup (e.sqt h1) (DpAll.mono e ds _ h2)
  | .dict _, _, h => by cases h
theorem DpAll.mono {K : PySem.W.Frag} {F F' : Hp} (e : Ex F F') : ∀ (ds : List PyData) (vs : List V), DpAll K F vs ds → DpAll K F' vs ds
  | [], _, h => by cases h; exact .nil
  | d :: ds, _, h => by
    cases h with
    | cons h1 h2 => exact .cons (Dp.mono e d _ h1) (DpAll.mono e ds _ h2)
end

end DL

namespace DL
open PySem L2

/-! ### what is owned: a list, a dict, that may change; its items are frozen -/
inductive OW where
  | lst (ts : List T)
  | dK (ks : List Key) (vs : List T)
  | dN (ks vs : List T)
  | ins (C dx : Addr) (ns : List Str) (ts : List T)
  | lk (ob : Obj) (es : List (NestedKey × Addr × V)) (ks vs : List T)
  | txs (ks : List Str)
inductive SV where
  | no | d (t : T) | own (a : Addr) (o : OW) | arg (a : Addr) (o : OW) | ptr (a : Addr)
  | lv (xs : List V) (ts : List T) | tv (xs : List V) (ts : List T)
inductive Loc where
  | slot (i : Nat) | top | tmp (n : Nat)
structure Cn where
  B : Bs
  F0 : Hp
  H0 : Hp
  A : Option Addr

def OwAt (B : Bs) (F H : Hp) (a : Addr) : OW → Prop
  | .lst ts => ∃ xs, H a = some (.lst xs) ∧ DVs B F xs ts
  | .dK ks vs => ∃ kvs, H a = some (.dK kvs) ∧ kvs.map (·.1) = ks ∧ DVs B F (kvs.map (·.2)) vs
  | .dN ks vs => ∃ es, H a = some (hoN B a es) ∧ T.nks ks = some (es.map (·.1)) ∧ DVs B F (es.map fun e => .ref e.2.1) ks ∧ DVs B F (es.map fun e => e.2.2) vs
  | .ins C dx ns ts => ∃ fs, H a = some (.ins C dx fs) ∧ fs.map (·.1) = ns ∧ DVs B F (fs.map (·.2)) ts
  | .lk ob es ks vs => H a = some (.frz ob (hoN B a es)) ∧ T.nks ks = some (es.map (·.1)) ∧ DVs B F (es.map fun e => .ref e.2.1) ks ∧ DVs B F (es.map fun e => e.2.2) vs
  | .txs ks => H a = some (TxtO B.w a ks)
theorem OwAt.mono {B : Bs} {F F' H H' : Hp} {a : Addr} {o : OW} (e : Ex F F') (h : H' a = H a) (q : OwAt B F H a o) : OwAt B F' H' a o := by
  cases o with
  | lst ts => obtain ⟨xs, h1, h2⟩ := q; exact ⟨xs, by rw [h]; exact h1, DVs.mono e _ _ h2⟩
  | dK ks vs => obtain ⟨xs, h1, h0, h2⟩ := q; exact ⟨xs, by rw [h]; exact h1, h0, DVs.mono e _ _ h2⟩
  | dN ks vs => obtain ⟨xs, h1, h0, h2, h3⟩ := q; exact ⟨xs, by rw [h]; exact h1, h0, DVs.mono e _ _ h2, DVs.mono e _ _ h3⟩
  | ins C dx ns ts => obtain ⟨xs, h1, h0, h2⟩ := q; exact ⟨xs, by rw [h]; exact h1, h0, DVs.mono e _ _ h2⟩
  | lk ob es ks vs => obtain ⟨h1, h0, h2, h3⟩ := q; exact ⟨by rw [h]; exact h1, h0, DVs.mono e _ _ h2, DVs.mono e _ _ h3⟩
  | txs ks => exact h.trans q
theorem OwAt.some {B : Bs} {F H : Hp} {a : Addr} {o : OW} (q : OwAt B F H a o) : ∃ u, H a = some u := by
  cases o with
  | lst ts => obtain ⟨xs, h1, h2⟩ := q; exact ⟨_, h1⟩
  | dK ks vs => obtain ⟨xs, h1, _⟩ := q; exact ⟨_, h1⟩
  | dN ks vs => obtain ⟨xs, h1, _⟩ := q; exact ⟨_, h1⟩
  | ins C dx ns ts => obtain ⟨xs, h1, _⟩ := q; exact ⟨_, h1⟩
  | lk ob es ks vs => exact ⟨_, q.1⟩
  | txs ks => exact ⟨_, q⟩

def SlotOk (c : Cn) (F : Hp) (g : Addr → Option Loc) (H : Hp) (i : Nat) (x : Option V) : SV → Prop
  | .no => True
  | .d t => ∃ v, x = some v ∧ DV c.B F v t
  | .own a o => x = some (.ref a) ∧ g a = some (.slot i) ∧ c.H0 a = none ∧ OwAt c.B F H a o
  | .arg a o => x = some (.ref a) ∧ g a = some (.slot i) ∧ c.A = some a ∧ OwAt c.B F H a o
  | .ptr a => x = some (.ref a)
  | .lv _ _ => False
  | .tv _ _ => False
def TempOk (c : Cn) (F : Hp) (g : Addr → Option Loc) (H : Hp) (n : Nat) (p : V × SV) : Prop := match p.2 with
  | .d t => DV c.B F p.1 t
  | .ptr a => p.1 = .ref a
  | .lv xs ts => ∃ a, p.1 = .ref a ∧ SqL c.B.K F a xs ∧ DVs c.B F xs ts
  | .tv xs ts => ∃ a, p.1 = .ref a ∧ SqT c.B.K F a xs ∧ DVs c.B F xs ts
  | .no => True
  | .own a o => p.1 = .ref a ∧ g a = some (.tmp n) ∧ c.H0 a = none ∧ OwAt c.B F H a o
  | .arg _ _ => False
def TopOk (c : Cn) (F : Hp) (g : Addr → Option Loc) (H : Hp) (v : V) : SV → Prop
  | .d t => DV c.B F v t
  | .own a o => v = .ref a ∧ g a = some .top ∧ c.H0 a = none ∧ OwAt c.B F H a o
  | .ptr a => v = .ref a
  | .lv _ _ => False
  | .tv _ _ => False
  | .no => True
  | .arg _ _ => False
structure StF (c : Cn) (F : Hp) (g : Addr → Option Loc) (σ : L2.St) (H : Hp) (δ : List SV) (ρ : List (V × SV)) : Prop where
  fh : Ex F H
  f0 : Ex c.F0 F
  fn : ∀ a o, c.H0 a = some o → F a = c.F0 a
  h0 : ∀ a o, c.H0 a = some o → c.A ≠ some a → H a = some o
  len : σ.length = δ.length
  sl : ∀ i s, δ[i]? = some s → SlotOk c F g H i (σ[i]?.join) s
  tm : ∀ n p, ρ[n]? = some p → TempOk c F g H n p
  gn : ∀ a l, g a = some l → F a = none ∧ ∃ o, H a = some o
  an : ∀ a, c.A = some a → F a = none ∧ (∃ o, H a = some o) ∧ ∃ o, c.H0 a = some o
def St (c : Cn) (σ : L2.St) (H : Hp) (δ : List SV) (ρ : List (V × SV)) : Prop := ∃ F g, StF c F g σ H δ ρ
def St1 (c : Cn) (σ : L2.St) (H : Hp) (δ : List SV) (ρ : List (V × SV)) (v : V) (r : SV) : Prop := ∃ F g, StF c F g σ H δ ρ ∧ TopOk c F g H v r

theorem DV.any {B : Bs} {F F' : Hp} {t : T} {v : V} (h : DV B F v t) (e : Ex F F') : DV B F' v t := DV.mono e t v h

section
variable {c : Cn} {F F' : Hp} {g g' : Addr → Option Loc} {σ : L2.St} {H H' : Hp} {δ δ' : List SV} {ρ : List (V × SV)} {i : Nat} {t : T} {v : V}
theorem SlotOk.mono {x : Option V} {s : SV} (e : Ex F F') (hg : ∀ a, g a = some (.slot i) → g' a = some (.slot i)) (hh : ∀ a, g a = some (.slot i) → H' a = H a) (q : SlotOk c F g H i x s) : SlotOk c F' g' H' i x s := by
  cases s with
  | no => trivial
  | d t => obtain ⟨v, e1, h⟩ := q; exact ⟨v, e1, h.any e⟩
  | own a o => obtain ⟨e1, h1, h2, h3⟩ := q; exact ⟨e1, hg a h1, h2, h3.mono e (hh a h1)⟩
  | arg a o => obtain ⟨e1, h1, h2, h3⟩ := q; exact ⟨e1, hg a h1, h2, h3.mono e (hh a h1)⟩
  | ptr a => exact q
  | lv _ _ => exact q
  | tv _ _ => exact q
theorem TempOk.mono {p : V × SV} {n : Nat} (e : Ex F F') (hg : ∀ a, g a = some (.tmp n) → g' a = some (.tmp n)) (hh : ∀ a, g a = some (.tmp n) → H' a = H a) (q : TempOk c F g H n p) : TempOk c F' g' H' n p := by
  obtain ⟨v, s⟩ := p
  cases s with
  | d t => exact DV.any (B := c.B) (v := v) (t := t) q e
  | ptr a => exact q
  | no => exact q
  | own a o => obtain ⟨e1, h1, h2, h3⟩ := q; exact ⟨e1, hg a h1, h2, h3.mono e (hh a h1)⟩
  | arg a o => exact q
  | lv xs ts => obtain ⟨a, e1, h1, h2⟩ := q; exact ⟨a, e1, e.sql h1, DVs.mono e _ _ h2⟩
  | tv xs ts => obtain ⟨a, e1, h1, h2⟩ := q; exact ⟨a, e1, e.sqt h1, DVs.mono e _ _ h2⟩

/-! ### reading the state -/
theorem StF.data (S : StF c F g σ H δ ρ) (h : δ[i]? = some (.d t)) : ∃ v, σ[i]? = some (some v) ∧ DV c.B F v t := by
  obtain ⟨v, e, q⟩ := S.sl i _ h
  refine ⟨v, ?_, q⟩
  cases z : σ[i]? with
  | none => rw [z] at e; cases e
  | some y => rw [z] at e; simp at e; rw [e]
theorem StF.sz (S : StF c F g σ H δ ρ) (h : δ[i]? = some s) : i < σ.length := by
  rw [S.len]; exact (List.getElem?_eq_some_iff.mp h).1

/-! ### growing: new frozen objects, temporaries -/
/-- the heap grew by objects that nobody knew; F grew by some of these -/
theorem StF.grow (S : StF c F g σ H δ ρ) (eh : Ex H H') (ef : Ex F F') (fh : Ex F' H') (fn : ∀ a o, H a = some o → F' a = F a) : StF c F' g σ H' δ ρ where
  fh := fh
  f0 := S.f0.trans ef
  fn := fun a o e => by
    by_cases hA : c.A = some a
    · obtain ⟨_, ⟨u, hu⟩, _⟩ := S.an a hA
      rw [fn a u hu]; exact S.fn a o e
    · rw [fn a o (S.h0 a o e hA)]; exact S.fn a o e
  h0 := fun a o e hA => eh a o (S.h0 a o e hA)
  len := S.len
  sl := fun i s e => (S.sl i s e).mono ef (fun _ h => h) (fun a h => by
    obtain ⟨_, u, hu⟩ := S.gn a _ h
    rw [hu, eh a u hu])
  tm := fun n p hp => (S.tm n p hp).mono ef (fun _ h => h) (fun a h => by
    obtain ⟨_, u, hu⟩ := S.gn a _ h
    rw [hu, eh a u hu])
  gn := fun a l e => by
    obtain ⟨h1, u, hu⟩ := S.gn a l e
    exact ⟨by rw [fn a u hu]; exact h1, u, eh a u hu⟩
  an := fun a e => by
    obtain ⟨h1, ⟨u, hu⟩, h2⟩ := S.an a e
    exact ⟨by rw [fn a u hu]; exact h1, ⟨u, eh a u hu⟩, h2⟩
theorem StF.push (S : StF c F g σ H δ ρ) {p : V × SV} (h : TempOk c F g H ρ.length p) : StF c F g σ H δ (ρ ++ [p]) :=
  ⟨S.fh, S.f0, S.fn, S.h0, S.len, S.sl, fun n q hq => by
    by_cases e : n < ρ.length
    · rw [List.getElem?_append_left e] at hq; exact S.tm n q hq
    · rw [List.getElem?_append_right (by omega)] at hq
      have : n - ρ.length = 0 := by
        have := (List.getElem?_eq_some_iff.mp hq).1
        simp at this; omega
      rw [this] at hq
      have e2 : n = ρ.length := by omega
      subst e2
      simp at hq; subst hq; exact h, S.gn, S.an⟩
theorem StF.drop {ρ' : List (V × SV)} (S : StF c F g σ H δ (ρ ++ ρ')) : StF c F g σ H δ ρ :=
  ⟨S.fh, S.f0, S.fn, S.h0, S.len, S.sl, fun n q hq => S.tm n q (by
    rw [List.getElem?_append_left (List.getElem?_eq_some_iff.mp hq).1]; exact hq), S.gn, S.an⟩
theorem StF.last {p : V × SV} (S : StF c F g σ H δ (ρ ++ [p])) : TempOk c F g H ρ.length p := S.tm _ _ (by rw [List.getElem?_append_right (Nat.le_refl _)]; simp)
theorem St.mk0 (S : StF c F g σ H δ ρ) : St c σ H δ ρ := ⟨F, g, S⟩
theorem St1.st (S : St1 c σ H δ ρ v r) : St c σ H δ ρ := let ⟨F, g, S, _⟩ := S; ⟨F, g, S⟩
theorem St.drop {ρ' : List (V × SV)} (S : St c σ H δ (ρ ++ ρ')) : St c σ H δ ρ := let ⟨F, g, S⟩ := S; ⟨F, g, S.drop⟩
theorem St1.push (S : St1 c σ H δ ρ v (.d t)) : St c σ H δ (ρ ++ [(v, .d t)]) := by
  obtain ⟨F, g, S, h⟩ := S
  exact ⟨F, g, S.push h⟩
theorem St1.pushP {a : Addr} (S : St1 c σ H δ ρ v (.ptr a)) : St c σ H δ (ρ ++ [(v, .ptr a)]) := by
  obtain ⟨F, g, S, h⟩ := S
  exact ⟨F, g, S.push h⟩
/-- a value without objects -/
def flat : V → T → Prop
  | v, .non => v = .non
  | v, .bl b => v = .bl b
  | v, .int i => v = .int i
  | v, .str x => v = .str x
  | v, .raw u => v = u
  | _, _ => False
theorem flat.dv {B : Bs} : ∀ {t : T} {v : V}, flat v t → DV B F v t
  | .non, _, h => by simp only [DV]; exact h
  | .bl _, _, h => by simp only [DV]; exact h
  | .int _, _, h => by simp only [DV]; exact h
  | .str _, _, h => by simp only [DV]; exact h
  | .raw _, _, h => by simp only [DV]; exact h
  | .lst _, _, h => by cases h
  | .rl _, _, h => by cases h
  | .dN _ _, _, h => by cases h
  | .dK _ _, _, h => by cases h
  | .tup _, _, h => by cases h
  | .obj _ _ _, _, h => by cases h
theorem St.flat (S : St c σ H δ ρ) (h : flat v t) : St1 c σ H δ ρ v (.d t) := by
  obtain ⟨F, g, S⟩ := S
  exact ⟨F, g, S, h.dv⟩
/-- a new object of frozen items, owned -/
theorem StF.newOwn (S : StF c F g σ H δ ρ) {p : Addr} {u : HO} (hp : H p = none) : ∃ g', StF c F g' σ (upd H p u) δ ρ ∧ g' p = some .top ∧ F p = none ∧ c.H0 p = none := by
  have hF : F p = none := S.fh.fresh hp
  have hA : c.A ≠ some p := fun e => by
    obtain ⟨_, ⟨o, h⟩, _⟩ := S.an p e
    rw [hp] at h; cases h
  have h0 : c.H0 p = none := by
    cases z : c.H0 p with
    | none => rfl
    | some o => rw [S.h0 p o z hA] at hp; cases hp
  have S1 := S.grow (H' := upd H p u) (F' := F) (Ex.new hp) (Ex.refl F) (S.fh.trans (Ex.new hp)) (fun _ _ _ => rfl)
  have gp : g p = none := by
    cases z : g p with
    | none => rfl
    | some l =>
      obtain ⟨_, o, h⟩ := S.gn p l z
      rw [hp] at h; cases h
  have hk : ∀ a l, g a = some l → (if a = p then some Loc.top else g a) = some l := fun a l h => by
    have : a ≠ p := fun q => by rw [q, gp] at h; cases h
    rw [if_neg this]; exact h
  refine ⟨fun b => if b = p then some .top else g b, ⟨S1.fh, S1.f0, S1.fn, S1.h0, S1.len, fun i s e => (S1.sl i s e).mono (Ex.refl F) (fun a h => hk a _ h) (fun _ _ => rfl), fun n q e => (S1.tm n q e).mono (Ex.refl F) (fun a h => hk a _ h) (fun _ _ => rfl), fun a l e => ?_, S1.an⟩, if_pos rfl, hF, h0⟩
  · by_cases q : a = p
    · subst q; exact ⟨hF, _, upd_same⟩
    · rw [if_neg q] at e; exact S1.gn a l e
theorem St.newLst (S : St c σ H δ ρ) {p : Addr} {xs : List V} {ts : List T} (hp : H p = none) (h : ∀ F g, StF c F g σ H δ ρ → DVs c.B F xs ts) : St1 c σ (upd H p (.lst xs)) δ ρ (.ref p) (.own p (.lst ts)) := by
  obtain ⟨F, g, S⟩ := S
  obtain ⟨g', S', hg, _, h0⟩ := S.newOwn (u := .lst xs) hp
  exact ⟨F, g', S', rfl, hg, h0, xs, upd_same, h F g S⟩
theorem StF.newTup (S : StF c F g σ H δ ρ) {p : Addr} {u : HO} (hp : H p = none) : StF c (upd F p u) g σ (upd H p u) δ ρ ∧ Ex F (upd F p u) :=
  have hF : F p = none := S.fh.fresh hp
  ⟨S.grow (Ex.new hp) (Ex.new hF) S.fh.both (fun a o e => upd_ne (ne_of_none e hp)), Ex.new hF⟩
/-- an owned list is frozen -/
theorem St1.freeze {a : Addr} (S : St1 c σ H δ ρ v (.own a (.lst ts))) : St1 c σ H δ ρ v (.d (.lst ts)) := by
  obtain ⟨F, g, S, rfl, hg, h0, xs, hx, hd⟩ := S
  obtain ⟨hF, _⟩ := S.gn a _ hg
  have hk : ∀ b l, l ≠ Loc.top → g b = some l → (if b = a then none else g b) = some l := fun b l hl h => by
    have : b ≠ a := fun q => by rw [q, hg] at h; cases h; exact hl rfl
    rw [if_neg this]; exact h
  refine ⟨upd F a (.lst xs), fun b => if b = a then none else g b, ⟨S.fh.in1 hx, S.f0.trans (Ex.new hF), fun b o e => ?_, S.h0, S.len, fun i s e => (S.sl i s e).mono (Ex.new hF) (fun b h => hk b _ (by intro z; cases z) h) (fun _ _ => rfl), fun n p hp => (S.tm n p hp).mono (Ex.new hF) (fun b h => hk b _ (by intro z; cases z) h) (fun _ _ => rfl), fun b l e => ?_, fun b e => ?_⟩, DV.lst_ upd_same (DVs.mono (Ex.new hF) _ _ hd)⟩
  · have : b ≠ a := fun q => by rw [q, h0] at e; cases e
    rw [upd_ne this]; exact S.fn b o e
  · by_cases q : b = a
    · rw [if_pos q] at e; cases e
    · rw [if_neg q] at e; rw [upd_ne q]; exact S.gn b l e
  · obtain ⟨h1, h2⟩ := S.an b e
    by_cases q : b = a
    · obtain ⟨_, o, ho⟩ := h2
      rw [q, h0] at ho; cases ho
    · rw [upd_ne q]; exact ⟨h1, h2⟩
/-- a list or dict that a slot owned is data from now on -/
def OW.fr : OW → Option T
  | .lst ts => some (.lst ts)
  | .dK ks vs => some (.dK ks vs)
  | .dN ks vs => some (.dN ks vs)
  | .ins C _ ns ts => some (.obj C ns ts)
  | .lk _ _ _ _ => none
  | .txs _ => none
theorem St1.freezeO {a : Addr} {o : OW} (S : St1 c σ H δ ρ v (.own a o)) (hf : o.fr = some t) : St1 c σ H δ ρ v (.d t) := by
  obtain ⟨F, g, S, rfl, hg, h0, ho⟩ := S
  obtain ⟨hF, u, hx⟩ := S.gn a _ hg
  have hk : ∀ b l, l ≠ Loc.top → g b = some l → (if b = a then none else g b) = some l := fun b l hl h => by
    have : b ≠ a := fun q => by rw [q, hg] at h; cases h; exact hl rfl
    rw [if_neg this]; exact h
  have e3 : Ex F (upd F a u) := Ex.new hF
  have hd : DV c.B (upd F a u) (.ref a) t := by
    cases o with
    | lst ts => cases hf; obtain ⟨xs, h1, h2⟩ := ho; rw [hx] at h1; cases h1; simp only [DV]; exact ⟨a, xs, rfl, upd_same, DVs.mono e3 _ _ h2⟩
    | dK ks vs => cases hf; obtain ⟨xs, h1, h3, h2⟩ := ho; rw [hx] at h1; cases h1; simp only [DV]; exact ⟨a, xs, rfl, upd_same, h3, DVs.mono e3 _ _ h2⟩
    | dN ks vs => cases hf; obtain ⟨xs, h1, h3, h4, h2⟩ := ho; rw [hx] at h1; cases h1; simp only [DV]; exact ⟨a, xs, rfl, upd_same, h3, DVs.mono e3 _ _ h4, DVs.mono e3 _ _ h2⟩
    | ins C dx ns ts => cases hf; obtain ⟨xs, h1, h3, h2⟩ := ho; rw [hx] at h1; cases h1; simp only [DV]; exact ⟨a, dx, xs, rfl, upd_same, h3, DVs.mono e3 _ _ h2⟩
    | lk ob es ks vs => cases hf
    | txs ks => cases hf
  refine ⟨upd F a u, fun b => if b = a then none else g b, ⟨S.fh.in1 hx, S.f0.trans (Ex.new hF), fun b o e => ?_, S.h0, S.len, fun i s e => (S.sl i s e).mono (Ex.new hF) (fun b h => hk b _ (by intro z; cases z) h) (fun _ _ => rfl), fun n p hp => (S.tm n p hp).mono (Ex.new hF) (fun b h => hk b _ (by intro z; cases z) h) (fun _ _ => rfl), fun b l e => ?_, fun b e => ?_⟩, hd⟩
  · have : b ≠ a := fun q => by rw [q, h0] at e; cases e
    rw [upd_ne this]; exact S.fn b o e
  · by_cases q : b = a
    · rw [if_pos q] at e; cases e
    · rw [if_neg q] at e; rw [upd_ne q]; exact S.gn b l e
  · obtain ⟨h1, h2⟩ := S.an b e
    by_cases q : b = a
    · obtain ⟨_, o, ho⟩ := h2
      rw [q, h0] at ho; cases ho
    · rw [upd_ne q]; exact ⟨h1, h2⟩
end
end DL

namespace DL
open PySem L2
section
variable {c : Cn} {F F' : Hp} {g g' : Addr → Option Loc} {σ : L2.St} {H H' : Hp} {δ δ' : List SV} {ρ : List (V × SV)} {i : Nat} {t : T} {v : V} {r : SV}

/-! ### a slot is stored -/
theorem TempOk.at {p : V × SV} {n : Nat} {l : Loc} (a : Addr) (hg : g a ≠ some (.tmp n)) (q : TempOk c F g H n p) : TempOk c F (fun b => if b = a then some l else g b) H n p :=
  q.mono (Ex.refl F) (fun b h => by
    have : b ≠ a := fun e => by rw [e] at h; exact hg h
    rw [if_neg this]; exact h) (fun _ _ => rfl)
theorem SlotOk.at {l : Loc} {x : Option V} {s : SV} {j : Nat} (a : Addr) (hg : g a ≠ some (.slot j)) (q : SlotOk c F g H j x s) : SlotOk c F (fun b => if b = a then some l else g b) H j x s :=
  q.mono (Ex.refl F) (fun b h => by
    have : b ≠ a := fun e => by rw [e] at h; exact hg h
    rw [if_neg this]; exact h) (fun _ _ => rfl)
theorem St1.store (S : St1 c σ H δ ρ v r) : St c (σ.set i (some v)) H (δ.set i r) ρ := by
  obtain ⟨F, g, S, h⟩ := S
  have key : ∀ g' : Addr → Option Loc, (∀ j s x, j ≠ i → SlotOk c F g H j x s → SlotOk c F g' H j x s) → (∀ n p, TempOk c F g H n p → TempOk c F g' H n p) → SlotOk c F g' H i (some v) r → (∀ a l, g' a = some l → F a = none ∧ ∃ o, H a = some o) → St c (σ.set i (some v)) H (δ.set i r) ρ := fun g' h1 ht h2 h3 =>
    ⟨F, g', S.fh, S.f0, S.fn, S.h0, by rw [List.length_set, List.length_set]; exact S.len, fun j s e => by
      by_cases q : j = i
      · subst q
        have hj : j < δ.length := by
          have := (List.getElem?_eq_some_iff.mp e).1
          rwa [List.length_set] at this
        rw [List.getElem?_set_self hj] at e
        cases e
        rw [List.getElem?_set_self (by rw [S.len]; exact hj)]
        exact h2
      · rw [List.getElem?_set_ne (Ne.symm q)] at e ⊢
        exact h1 j s _ q (S.sl j s e), fun n p e => ht n p (S.tm n p e), h3, S.an⟩
  cases r with
  | no => exact key g (fun _ _ _ _ q => q) (fun _ _ q => q) trivial S.gn
  | d t => exact key g (fun _ _ _ _ q => q) (fun _ _ q => q) ⟨v, rfl, h⟩ S.gn
  | ptr a => exact key g (fun _ _ _ _ q => q) (fun _ _ q => q) (by rw [show v = .ref a from h]; exact (rfl : some (V.ref a) = some (V.ref a))) S.gn
  | arg a o => exact h.elim
  | lv _ _ => exact h.elim
  | tv _ _ => exact h.elim
  | own a o =>
    obtain ⟨rfl, h1, h2, h3⟩ := h
    refine key (fun b => if b = a then some (.slot i) else g b) (fun j s x hj q => q.at a (by rw [h1]; intro z; cases z)) (fun n p q => q.at a (by rw [h1]; intro z; cases z)) ⟨rfl, if_pos rfl, h2, h3⟩ fun b l e => ?_
    by_cases q : b = a
    · rw [q]; exact S.gn a _ h1
    · rw [if_neg q] at e; exact S.gn b l e
/-- the object that slot i owns is changed -/
theorem StF.updO {a : Addr} {o o' : OW} {u : HO} (S : StF c F g σ H δ ρ) (h : δ[i]? = some (.own a o)) (hn : OwAt c.B F (upd H a u) a o') : StF c F g σ (upd H a u) (δ.set i (.own a o')) ρ := by
  obtain ⟨e1, h1, h2, h3⟩ := S.sl i _ h
  obtain ⟨hF, _⟩ := S.gn a _ h1
  have hA : c.A ≠ some a := fun q => by
    obtain ⟨_, _, o, ho⟩ := S.an a q
    rw [h2] at ho; cases ho
  refine ⟨S.fh.upd2 hF, S.f0, S.fn, fun b o e hb => ?_, by rw [List.length_set]; exact S.len, fun j s e => ?_, fun n p e => (S.tm n p e).mono (Ex.refl F) (fun _ h => h) (fun b hb => upd_ne fun z => by rw [z, h1] at hb; cases hb), fun b l e => ?_, fun b e => ?_⟩
  · have : b ≠ a := fun q => by rw [q, h2] at e; cases e
    rw [upd_ne this]; exact S.h0 b o e hb
  · by_cases q : j = i
    · subst q
      rw [List.getElem?_set_self (List.getElem?_eq_some_iff.mp h).1] at e
      cases e
      exact ⟨e1, h1, h2, hn⟩
    · rw [List.getElem?_set_ne (Ne.symm q)] at e
      refine (S.sl j s e).mono (Ex.refl F) (fun _ h => h) fun b hb => upd_ne fun z => ?_
      rw [z, h1] at hb
      injection hb with hb; injection hb with hb
      exact q hb.symm
  · obtain ⟨x1, x2⟩ := S.gn b l e
    refine ⟨x1, ?_⟩
    by_cases q : b = a
    · exact ⟨u, by rw [q, upd_same]⟩
    · rw [upd_ne q]; exact x2
  · obtain ⟨x1, x2, x3⟩ := S.an b e
    exact ⟨x1, by rw [upd_ne (fun q => hA (by rw [← q]; exact e))]; exact x2, x3⟩
theorem StF.updA {a : Addr} {o o' : OW} {u : HO} (S : StF c F g σ H δ ρ) (h : δ[i]? = some (.arg a o)) (hn : OwAt c.B F (upd H a u) a o') : StF c F g σ (upd H a u) (δ.set i (.arg a o')) ρ := by
  obtain ⟨e1, h1, h2, h3⟩ := S.sl i _ h
  obtain ⟨hF, _⟩ := S.gn a _ h1
  refine ⟨S.fh.upd2 hF, S.f0, S.fn, fun b o e hb => ?_, by rw [List.length_set]; exact S.len, fun j s e => ?_, fun n p e => (S.tm n p e).mono (Ex.refl F) (fun _ h => h) (fun b hb => upd_ne fun z => by rw [z, h1] at hb; cases hb), fun b l e => ?_, fun b e => ?_⟩
  · have : b ≠ a := fun q => hb (by rw [q]; exact h2)
    rw [upd_ne this]; exact S.h0 b o e hb
  · by_cases q : j = i
    · subst q
      rw [List.getElem?_set_self (List.getElem?_eq_some_iff.mp h).1] at e
      cases e
      exact ⟨e1, h1, h2, hn⟩
    · rw [List.getElem?_set_ne (Ne.symm q)] at e
      refine (S.sl j s e).mono (Ex.refl F) (fun _ h => h) fun b hb => upd_ne fun z => ?_
      rw [z, h1] at hb
      injection hb with hb; injection hb with hb
      exact q hb.symm
  · obtain ⟨x1, x2⟩ := S.gn b l e
    refine ⟨x1, ?_⟩
    by_cases q : b = a
    · exact ⟨u, by rw [q, upd_same]⟩
    · rw [upd_ne q]; exact x2
  · obtain ⟨x1, x2, x3⟩ := S.an b e
    by_cases q : b = a
    · exact ⟨x1, ⟨u, by rw [q, upd_same]⟩, x3⟩
    · exact ⟨x1, by rw [upd_ne q]; exact x2, x3⟩
/-- forget a slot, or say it otherwise -/
theorem St.weaken {δ' : List SV} (S : St c σ H δ ρ) (hl : δ'.length = δ.length) (h : ∀ (i : Nat) (s' : SV), δ'[i]? = some s' → s' = SV.no ∨ δ[i]? = some s') : St c σ H δ' ρ := by
  obtain ⟨F, g, S⟩ := S
  refine ⟨F, g, S.fh, S.f0, S.fn, S.h0, by rw [hl]; exact S.len, fun i s' e => ?_, S.tm, S.gn, S.an⟩
  rcases h i s' e with rfl | h
  · trivial
  · exact S.sl i s' h
theorem StF.temps {ps : List (V × SV)} (S : StF c F g σ H δ (ρ ++ ps)) : ∀ n p, ps[n]? = some p → TempOk c F g H (ρ.length + n) p := fun n p hp => S.tm _ _ (by
  rw [List.getElem?_append_right (Nat.le_add_right _ _)]; simpa using hp)
theorem dvs_of : ∀ {vs : List V} {ts : List T} {m : Nat}, vs.length = (ts.map SV.d).length → (∀ n p, (vs.zip (ts.map SV.d))[n]? = some p → TempOk c F g H (m + n) p) → DVs c.B F vs ts
  | [], [], _, _, _ => .nil
  | v :: vs, t :: ts, m, hl, h => .cons (h 0 (v, .d t) (by simp)) (dvs_of (m := m + 1) (by simpa using hl) fun n p hp => by
      have := h (n + 1) p (by simpa using hp)
      rw [show m + 1 + n = m + (n + 1) by omega]; exact this)
  | [], _ :: _, _, hl, _ => by simp at hl
  | _ :: _, [], _, hl, _ => by simp at hl
/-- all that was put by is data -/
theorem St.args {vs : List V} {ts : List T} (hl : vs.length = (ts.map SV.d).length) (S : St c σ H δ (ρ ++ vs.zip (ts.map SV.d))) : ∃ F g, StF c F g σ H δ ρ ∧ DVs c.B F vs ts := by
  obtain ⟨F, g, S⟩ := S
  exact ⟨F, g, S.drop, dvs_of hl S.temps⟩
end

/-! ### judgements over readings -/
def EV (c : Cn) (te : TE) (δ : List SV) (Post : List SV → SV → Prop) : Prop :=
  ∀ σ H ρ Q, St c σ H δ ρ → (∀ v H' δ' r, Post δ' r → St1 c σ H' δ' ρ v r → Q v H') → te σ H Q
def EVT (c : Cn) (tt : TT) (δ : List SV) (Post : List SV → Bool → Prop) : Prop :=
  ∀ σ H ρ Q, St c σ H δ ρ → (∀ b H' δ', Post δ' b → St c σ H' δ' ρ → Q b H') → tt σ H Q
def EVA (c : Cn) (ta : TA) (δ : List SV) (Post : List SV → List SV → Prop) : Prop :=
  ∀ σ H ρ Q, St c σ H δ ρ → (∀ vs H' δ' rs, Post δ' rs → vs.length = rs.length → St c σ H' δ' (ρ ++ vs.zip rs) → Q vs H') → ta σ H Q
/-- an operation on two values, the second on top -/
def OP2 (c : Cn) (f : R2) (δ : List SV) (s1 s2 : SV) (Post : List SV → SV → Prop) : Prop :=
  ∀ σ H ρ x y Q, St c σ H δ (ρ ++ [(x, s1)] ++ [(y, s2)]) → (∀ v H' δ' r, Post δ' r → St1 c σ H' δ' ρ v r → Q v H') → f x y H Q
def OP1 (c : Cn) (f : V → Hp → VK → Prop) (δ : List SV) (s1 : SV) (Post : List SV → SV → Prop) : Prop :=
  ∀ σ H ρ x Q, St c σ H δ (ρ ++ [(x, s1)]) → (∀ v H' δ' r, Post δ' r → St1 c σ H' δ' ρ v r → Q v H') → f x H Q
def OPA (c : Cn) (f : List V → Hp → VK → Prop) (δ : List SV) (rs : List SV) (Post : List SV → SV → Prop) : Prop :=
  ∀ σ H ρ vs Q, vs.length = rs.length → St c σ H δ (ρ ++ vs.zip rs) → (∀ v H' δ' r, Post δ' r → St1 c σ H' δ' ρ v r → Q v H') → f vs H Q
structure DEnds where
  nx : List SV → Prop := fun _ => False
  rt : List SV → SV → Prop := fun _ _ => False
  bk : List SV → Prop := fun _ => False
  ct : List SV → Prop := fun _ => False
structure Meets (c : Cn) (ρ : List (V × SV)) (D : Ends) (R : DEnds) : Prop where
  nx : ∀ σ H δ, R.nx δ → St c σ H δ ρ → D.nx σ H
  rt : ∀ v σ H δ r, R.rt δ r → St1 c σ H δ ρ v r → D.rt v H
  bk : ∀ σ H δ, R.bk δ → St c σ H δ ρ → D.bk σ H
  ct : ∀ σ H δ, R.ct δ → St c σ H δ ρ → D.ct σ H
def ES (c : Cn) (ts : TS) (δ : List SV) (R : DEnds) : Prop := ∀ σ H ρ D, St c σ H δ ρ → Meets c ρ D R → ts D σ H
/-- the slots told by ws alone are stored -/
def OnlyAt (ws : Nat → Prop) (σ σ' : L2.St) : Prop := σ'.length = σ.length ∧ ∀ i, ¬ ws i → σ'[i]? = σ[i]?
def All (_ : Nat) : Prop := True
theorem all_in {i : Nat} : All i := trivial
def GT (c : Cn) (g : TG) (ws : Nat → Prop) (r : SV) (δ : List SV) (Post : List SV → Prop) : Prop :=
  ∀ v σ H ρ Q, St1 c σ H δ ρ v r → (∀ σ' H' δ', Post δ' → St c σ' H' δ' ρ → OnlyAt ws σ σ' → Q σ' H') → g v σ H Q

/-- what may be put by as a temporary: as it is; a new list is frozen -/
inductive Pu : SV → SV → Prop
  | d {t : T} : Pu (.d t) (.d t)
  | ptr {a : Addr} : Pu (.ptr a) (.ptr a)
  | no : Pu .no .no
  | fr {a : Addr} {ts : List T} : Pu (.own a (.lst ts)) (.d (.lst ts))
  | frO {a : Addr} {o : OW} {t : T} (h : o.fr = some t) : Pu (.own a o) (.d t)
theorem St1.put {c : Cn} {σ : L2.St} {H : Hp} {δ : List SV} {ρ : List (V × SV)} {v : V} {r r' : SV} (S : St1 c σ H δ ρ v r) (p : Pu r r') : St c σ H δ (ρ ++ [(v, r')]) := by
  cases p with
  | d => exact S.push
  | ptr => exact S.pushP
  | no => obtain ⟨F, g, S, h⟩ := S; exact ⟨F, g, S.push (by trivial)⟩
  | fr => exact S.freeze.push
  | frO h => exact (S.freezeO h).push

section
variable {c : Cn} {δ : List SV} {Post : List SV → SV → Prop} {ta tb te : TE} {i : Nat} {t : T} {tt tu : TT}
/-! ### names, constants -/
theorem ev_var (h : δ[i]? = some (.d t)) (k : Post δ (.d t)) : EV c (tVar i) δ Post := fun σ H ρ Q S q => by
  obtain ⟨F, g, S⟩ := S
  obtain ⟨v, e, hv⟩ := S.data h
  exact ⟨v, e, q v H δ _ k ⟨F, g, S, hv⟩⟩
theorem St.join {σ : L2.St} {i : Nat} {v : V} (e : (σ[i]?).join = some v) : σ[i]? = some (some v) := by
  cases z : σ[i]? with
  | none => rw [z] at e; cases e
  | some y => rw [z] at e; simp at e; rw [e]
theorem ev_ptr {a : Addr} {o : OW} (h : δ[i]? = some (.own a o) ∨ δ[i]? = some (.arg a o) ∨ δ[i]? = some (.ptr a)) (k : Post δ (.ptr a)) : EV c (tVar i) δ Post := fun σ H ρ Q S q => by
  obtain ⟨F, g, S⟩ := S
  rcases h with h | h | h
  · exact ⟨.ref a, St.join (S.sl i _ h).1, q _ H δ _ k ⟨F, g, S, rfl⟩⟩
  · exact ⟨.ref a, St.join (S.sl i _ h).1, q _ H δ _ k ⟨F, g, S, rfl⟩⟩
  · exact ⟨.ref a, St.join (S.sl i _ h), q _ H δ _ k ⟨F, g, S, rfl⟩⟩
theorem ev_c {v : V} (hf : flat v t) (k : Post δ (.d t)) : EV c (tC v) δ Post := fun σ H ρ Q S q => q v H δ _ k (S.flat hf)
theorem ev_int {n : Int} (k : Post δ (.d (.int n))) : EV c (tC (.int n)) δ Post := ev_c (t := .int n) rfl k
theorem ev_str {x : Str} (k : Post δ (.d (.str x))) : EV c (tC (.str x)) δ Post := ev_c (t := .str x) rfl k
theorem ev_bl {b : Bool} (k : Post δ (.d (.bl b))) : EV c (tC (.bl b)) δ Post := ev_c (t := .bl b) rfl k
theorem ev_non (k : Post δ (.d .non)) : EV c (tC .non) δ Post := ev_c (t := .non) rfl k
theorem EV.imp {P P' : List SV → SV → Prop} (h : EV c te δ P) (k : ∀ δ r, P δ r → P' δ r) : EV c te δ P' := fun σ H ρ Q S q => h σ H ρ Q S fun v H' δ' r p s => q v H' δ' r (k δ' r p) s

/-! ### argument lists, displays -/
theorem ea_nil {P : List SV → List SV → Prop} (k : P δ []) : EVA c tNil δ P := fun σ H ρ Q S q => q [] H δ [] k rfl (by simpa using S)
theorem ea_cons {tr : TA} {P : List SV → List SV → Prop} (h : EV c ta δ fun δ1 r => ∃ r', Pu r r' ∧ EVA c tr δ1 fun δ2 rs => P δ2 (r' :: rs)) : EVA c (tCons ta tr) δ P := fun σ H ρ Q S q =>
  h σ H ρ _ S fun v H' δ' r ⟨r', p, k⟩ S1 => k σ H' (ρ ++ [(v, r')]) _ (S1.put p) fun vs H2 δ2 rs k2 hl S2 => q (v :: vs) H2 δ2 (r' :: rs) k2 (by simp [hl]) (by
    rw [List.zip_cons_cons]
    rw [List.append_assoc] at S2; exact S2)
theorem ev_tup {tr : TA} (h : EVA c tr δ fun δ1 rs => ∃ ts, rs = ts.map .d ∧ ts.length ≤ sizeLine ∧ Post δ1 (.d (.tup ts))) : EV c (tTup tr) δ Post := fun σ H ρ Q S q =>
  h σ H ρ _ S fun vs H' δ' rs ⟨ts, e, hz, k⟩ hl S1 => by
    subst e
    obtain ⟨F, g, S2, hd⟩ := S1.args hl
    refine ⟨by rw [hl, List.length_map]; exact hz, fun p hp => ?_⟩
    obtain ⟨S3, e3⟩ := S2.newTup (u := .tup vs) hp
    exact q _ _ δ' _ k ⟨_, g, S3, DV.tup_ (SqT.of upd_same) (DVs.mono e3 _ _ hd)⟩
theorem ev_lst {tr : TA} (h : EVA c tr δ fun δ1 rs => ∃ ts, rs = ts.map .d ∧ ts.length ≤ sizeLine ∧ ∀ p, Post δ1 (.own p (.lst ts))) : EV c (tLst tr) δ Post := fun σ H ρ Q S q =>
  h σ H ρ _ S fun vs H' δ' rs ⟨ts, e, hz, k⟩ hl S1 => by
    subst e
    obtain ⟨F, g, S2, hd⟩ := S1.args hl
    refine ⟨by rw [hl, List.length_map]; exact hz, fun p hp => ?_⟩
    obtain ⟨g', S', hg, _, h0⟩ := S2.newOwn (u := .lst vs) hp
    exact q _ _ δ' _ (k p) ⟨F, g', S', rfl, hg, h0, vs, upd_same, hd⟩

/-! ### operations -/
theorem ev_op {f : R2} (h : EV c ta δ fun δ1 r1 => ∃ s1, Pu r1 s1 ∧ EV c tb δ1 fun δ2 r2 => ∃ s2, Pu r2 s2 ∧ OP2 c f δ2 s1 s2 Post) : EV c (tOp f ta tb) δ Post := fun σ H ρ Q S q =>
  h σ H ρ _ S fun x H1 δ1 r1 ⟨s1, p1, k1⟩ S1 => k1 σ H1 (ρ ++ [(x, s1)]) _ (S1.put p1) fun y H2 δ2 r2 ⟨s2, p2, k2⟩ S2 => k2 σ H2 ρ x y Q (S2.put p2) q
theorem ev_un {f : V → Hp → VK → Prop} (h : EV c ta δ fun δ1 r1 => ∃ s1, Pu r1 s1 ∧ OP1 c f δ1 s1 Post) : EV c (tUn f ta) δ Post := fun σ H ρ Q S q =>
  h σ H ρ _ S fun x H1 δ1 r1 ⟨s1, p1, k1⟩ S1 => k1 σ H1 ρ x Q (S1.put p1) q
theorem ev_cb {f : List V → Hp → VK → Prop} {tr : TA} (h : EVA c tr δ fun δ1 rs => OPA c f δ1 rs Post) : EV c (tCB f tr) δ Post := fun σ H ρ Q S q =>
  h σ H ρ _ S fun vs H' δ' rs k hl S1 => k σ H' ρ vs Q hl S1 q
/-! ### tests -/
theorem et_val {f : TE} {P : List SV → Bool → Prop} (h : EV c f δ fun δ1 r => ∃ b, r = .d (.bl b) ∧ P δ1 b) : EVT c (tTest f) δ P := fun σ H ρ Q S q =>
  h σ H ρ _ S fun v H' δ' r ⟨b, e, k⟩ S1 => by
    subst e
    obtain ⟨F, g, S1, hv⟩ := S1
    exact ⟨b, by simpa only [TopOk, DV] using hv, q b H' δ' k ⟨F, g, S1⟩⟩
theorem et_B {f : TE} {P : List SV → Bool → Prop} (h : EV c f δ fun δ1 r => ∃ b, r = .d (.bl b) ∧ P δ1 b) : EVT c (tB f) δ P := fun σ H ρ Q S q =>
  h σ H ρ _ S fun v H' δ' r ⟨b, e, k⟩ S1 => by
    subst e
    obtain ⟨F, g, S1, hv⟩ := S1
    exact ⟨b, by simpa only [TopOk, DV] using hv, q b H' δ' k ⟨F, g, S1⟩⟩
theorem et_not {P : List SV → Bool → Prop} (h : EVT c tt δ fun δ1 b => P δ1 (!b)) : EVT c (tNot tt) δ P := fun σ H ρ Q S q => h σ H ρ _ S fun b H' δ' k S1 => q _ H' δ' k S1
theorem et_and {P : List SV → Bool → Prop} (h : EVT c tt δ fun δ1 b => if b = true then EVT c tu δ1 P else P δ1 false) : EVT c (tAnd tt tu) δ P := fun σ H ρ Q S q => h σ H ρ _ S fun b H' δ' k S1 => by
  cases b with
  | true => exact (show EVT c tu δ' P from k) σ H' ρ Q S1 q
  | false => exact q false H' δ' k S1
theorem et_or {P : List SV → Bool → Prop} (h : EVT c tt δ fun δ1 b => if b = true then P δ1 true else EVT c tu δ1 P) : EVT c (tOr tt tu) δ P := fun σ H ρ Q S q => h σ H ρ _ S fun b H' δ' k S1 => by
  cases b with
  | true => exact q true H' δ' k S1
  | false => exact (show EVT c tu δ' P from k) σ H' ρ Q S1 q
theorem ev_ifx (h : EVT c tt δ fun δ1 b => if b = true then EV c ta δ1 Post else EV c tb δ1 Post) : EV c (tIf tt ta tb) δ Post := fun σ H ρ Q S q => h σ H ρ _ S fun b H' δ' k S1 => by
  cases b with
  | true => exact (show EV c ta δ' Post from k) σ H' ρ Q S1 q
  | false => exact (show EV c tb δ' Post from k) σ H' ρ Q S1 q
theorem ev_andV (h : EV c ta δ fun δ1 r => ∃ b, r = .d (.bl b) ∧ if b = true then EV c tb δ1 Post else Post δ1 (.d (.bl false))) : EV c (tAndV ta tb) δ Post := fun σ H ρ Q S q => h σ H ρ _ S fun v H' δ' r ⟨b, e, k⟩ S1 => by
  subst e
  obtain ⟨F, g, S1, hv⟩ := S1
  refine ⟨b, by simpa only [TopOk, DV] using hv, ?_⟩
  cases b with
  | true => exact (show EV c tb δ' Post from k) σ H' ρ Q ⟨F, g, S1⟩ q
  | false => exact q _ H' δ' _ k (St.flat ⟨F, g, S1⟩ rfl)
theorem ev_orV (h : EV c ta δ fun δ1 r => ∃ b, r = .d (.bl b) ∧ if b = true then Post δ1 (.d (.bl true)) else EV c tb δ1 Post) : EV c (tOrV ta tb) δ Post := fun σ H ρ Q S q => h σ H ρ _ S fun v H' δ' r ⟨b, e, k⟩ S1 => by
  subst e
  obtain ⟨F, g, S1, hv⟩ := S1
  refine ⟨b, by simpa only [TopOk, DV] using hv, ?_⟩
  cases b with
  | true => exact q _ H' δ' _ k (St.flat ⟨F, g, S1⟩ rfl)
  | false => exact (show EV c tb δ' Post from k) σ H' ρ Q ⟨F, g, S1⟩ q
theorem ev_notV (h : EV c ta δ fun δ1 r => ∃ b, r = .d (.bl b) ∧ Post δ1 (.d (.bl (!b)))) : EV c (tNotV ta) δ Post := fun σ H ρ Q S q => h σ H ρ _ S fun v H' δ' r ⟨b, e, k⟩ S1 => by
  subst e
  obtain ⟨F, g, S1, hv⟩ := S1
  exact ⟨b, by simpa only [TopOk, DV] using hv, q _ H' δ' _ k (St.flat ⟨F, g, S1⟩ rfl)⟩
end

section
variable {c : Cn} {δ : List SV} {R : DEnds} {te : TE} {i : Nat} {t u : TS} {tt : TT} {g : TG}
/-! ### statements -/
theorem es_seq (h : ES c t δ { R with nx := fun δ1 => ES c u δ1 R }) : ES c (tSeq t u) δ R := fun σ H ρ D S M =>
  h σ H ρ _ S ⟨fun σ H δ k S => k σ H ρ D S M, M.rt, M.bk, M.ct⟩
theorem es_next (h : R.nx δ) : ES c tNext δ R := fun σ H ρ D S M => M.nx σ H δ h S
theorem es_break (h : R.bk δ) : ES c tBreak δ R := fun σ H ρ D S M => M.bk σ H δ h S
theorem es_cont (h : R.ct δ) : ES c tCont δ R := fun σ H ρ D S M => M.ct σ H δ h S
theorem es_ret (h : EV c te δ R.rt) : ES c (tRet te) δ R := fun σ H ρ D S M => h σ H ρ _ S fun v H' δ' r k S1 => M.rt v σ H' δ' r k S1
theorem es_retN (h : R.rt δ (.d .non)) : ES c tRetN δ R := fun σ H ρ D S M => M.rt .non σ H δ _ h (S.flat rfl)
theorem es_drop (h : EV c te δ fun δ1 _ => R.nx δ1) : ES c (tDrop te) δ R := fun σ H ρ D S M => h σ H ρ _ S fun v H' δ' r k S1 => M.nx σ H' δ' k S1.st
theorem es_asg (h : EV c te δ fun δ1 r => GT c g All r δ1 R.nx) : ES c (tAsg te g) δ R := fun σ H ρ D S M => h σ H ρ _ S fun v H' δ' r k S1 => k v σ H' ρ _ S1 fun σ2 H2 δ2 k2 S2 _ => M.nx σ2 H2 δ2 k2 S2
theorem OnlyAt.refl (ws : Nat → Prop) (σ : L2.St) : OnlyAt ws σ σ := ⟨rfl, fun _ _ => rfl⟩
theorem OnlyAt.set {ws : Nat → Prop} (σ : L2.St) {i : Nat} (hi : ws i) (x : Option V) : OnlyAt ws σ (σ.set i x) := ⟨List.length_set .., fun j h => List.getElem?_set_ne (fun e => h (by rw [← e]; exact hi))⟩
theorem OnlyAt.trans {ws : Nat → Prop} {σ σ' σ2 : L2.St} (a : OnlyAt ws σ σ') (b : OnlyAt ws σ' σ2) : OnlyAt ws σ σ2 :=
  ⟨b.1.trans a.1, fun i h => (b.2 i h).trans (a.2 i h)⟩
theorem gt_name {ws : Nat → Prop} {r : SV} {P : List SV → Prop} (hi : ws i) (k : P (δ.set i r)) : GT c (gName i) ws r δ P := fun v σ H ρ Q S q => q _ _ _ k S.store (OnlyAt.set σ hi _)
theorem es_if (h : EVT c tt δ fun δ1 b => if b = true then ES c t δ1 R else ES c u δ1 R) : ES c (tIfS tt t u) δ R := fun σ H ρ D S M => h σ H ρ _ S fun b H' δ' k S1 => by
  cases b with
  | true => exact (show ES c t δ' R from k) σ H' ρ D S1 M
  | false => exact (show ES c u δ' R from k) σ H' ρ D S1 M
theorem ES.imp {R' : DEnds} (h : ES c t δ R) (nx : ∀ δ, R.nx δ → R'.nx δ) (rt : ∀ δ r, R.rt δ r → R'.rt δ r) (bk : ∀ δ, R.bk δ → R'.bk δ) (ct : ∀ δ, R.ct δ → R'.ct δ) : ES c t δ R' := fun σ H ρ D S M =>
  h σ H ρ D S ⟨fun σ H δ k S => M.nx σ H δ (nx δ k) S, fun v σ H δ r k S => M.rt v σ H δ r (rt δ r k) S, fun σ H δ k S => M.bk σ H δ (bk δ k) S, fun σ H δ k S => M.ct σ H δ (ct δ k) S⟩
theorem ES.weaken {δ' : List SV} (h : ES c t δ' R) (hl : δ'.length = δ.length) (hw : ∀ (i : Nat) (s' : SV), δ'[i]? = some s' → s' = SV.no ∨ δ[i]? = some s') : ES c t δ R := fun σ H ρ D S M => h σ H ρ D (S.weaken hl hw) M
/-- (a, b, ..) = a tuple -/
def GTs (c : Cn) (g : TGs) (ws : Nat → Prop) (ts : List T) (δ : List SV) (Post : List SV → Prop) : Prop :=
  ∀ vs σ H ρ Q, (∃ F g, StF c F g σ H δ ρ ∧ DVs c.B F vs ts) → (∀ σ' H' δ', Post δ' → St c σ' H' δ' ρ → OnlyAt ws σ σ' → Q σ' H') → g vs σ H Q
theorem gts_nil {ws : Nat → Prop} {P : List SV → Prop} (k : P δ) : GTs c gNil ws [] δ P := fun vs σ H ρ Q ⟨F, g, S, h⟩ q => ⟨by simpa only [DVs] using h, q _ _ _ k ⟨F, g, S⟩ (OnlyAt.refl ws σ)⟩
theorem StF.pushAll {F : Hp} {g : Addr → Option Loc} {σ : L2.St} {H : Hp} : ∀ {ts : List T} {vs : List V} {ρ : List (V × SV)}, StF c F g σ H δ ρ → DVs c.B F vs ts → StF c F g σ H δ (ρ ++ vs.zip (ts.map SV.d))
  | [], vs, ρ, S, _ => by simpa using S
  | t :: ts, vs, ρ, S, h => by
    simp only [DVs] at h
    obtain ⟨v, r, rfl, h1, h2⟩ := h
    have S1 : StF c F g σ H δ (ρ ++ [(v, .d t)]) := S.push h1
    have S2 := StF.pushAll S1 h2
    rw [List.append_assoc] at S2
    exact S2
theorem gts_cons {g : TG} {gs : TGs} {ws : Nat → Prop} {t : T} {ts : List T} {P : List SV → Prop} (h : GT c g ws (.d t) δ fun δ1 => GTs c gs ws ts δ1 P) : GTs c (gCons g gs) ws (t :: ts) δ P :=
  fun vs σ H ρ Q ⟨F, g', S, hd⟩ q => by
    simp only [DVs] at hd
    obtain ⟨v, r, rfl, h1, h2⟩ := hd
    refine ⟨v, r, rfl, h v σ H (ρ ++ r.zip (ts.map SV.d)) _ ⟨F, g', S.pushAll h2, h1⟩ fun σ' H' δ' k S' o => ?_⟩
    exact k r σ' H' ρ _ (St.args (by rw [List.length_map]; exact h2.length) S') fun σ2 H2 δ2 k2 S2 o2 => q σ2 H2 δ2 k2 S2 (o.trans o2)
theorem gt_tup {gs : TGs} {ws : Nat → Prop} {ts : List T} {n : Nat} {P : List SV → Prop} (hn : ts.length = n) (h : GTs c gs ws ts δ P) : GT c (gTup c.B.K n gs) ws (.d (.tup ts)) δ P := fun v σ H ρ Q S q => by
  obtain ⟨F, g, S, hd⟩ := S
  have hd : DV c.B F v (.tup ts) := hd
  simp only [DV] at hd
  obtain ⟨a, xs, rfl, h1, h2⟩ := hd
  exact ⟨a, xs, rfl, S.fh.sqt h1, by rw [h2.length, hn], h xs σ H ρ Q ⟨F, g, S, h2⟩ q⟩
end
end DL

namespace DL
open PySem L2

/-! ### loops -/
section
variable {c : Cn} {δ : List SV} {R : DEnds} {tl : TE} {ta : TA} {g : TG} {tb : TS}
theorem Meets.turn {c : Cn} {ρ ρ' : List (V × SV)} {D : Ends} {R : DEnds} {I : List SV → Prop} {N : L2.St → Hp → Prop} (M : Meets c ρ D R) (n : ∀ σ H δ, I δ → St c σ H δ (ρ ++ ρ') → N σ H) :
    Meets c (ρ ++ ρ') { D with nx := N, ct := N, bk := D.nx } { R with nx := I, ct := I, bk := R.nx } :=
  ⟨n, fun v σ H δ r k ⟨F, g, S, t⟩ => M.rt v σ H δ r k ⟨F, g, S.drop, t⟩, fun σ H δ k S => M.nx σ H δ k S.drop, n⟩
/-- for over a list of data -/
theorem es_forL (h : EV c tl δ fun δ1 r => ∃ ts, Pu r (.d (.lst ts)) ∧ ∃ I : Nat → List SV → Prop, I 0 δ1 ∧
    (∀ i t δ, ts[i]? = some t → I i δ → GT c g All (.d t) δ fun δ2 => ES c tb δ2 { R with nx := I (i + 1), ct := I (i + 1), bk := R.nx }) ∧ ∀ δ, I ts.length δ → R.nx δ) : ES c (tFor (iList c.B.K tl) g tb) δ R := fun σ H ρ D S M =>
  h σ H ρ _ S fun v H1 δ1 r ⟨ts, p, I, h0, hs, hd⟩ S1 => by
    obtain ⟨F1, g1, S3⟩ := S1.put p
    have hv : DV c.B F1 v (.lst ts) := S3.last
    simp only [DV] at hv
    obtain ⟨a, xs, rfl, hx, hxs⟩ := hv
    refine ⟨a, rfl, ⟨xs, SqL.of (S3.fh _ _ hx)⟩, ?_⟩
    have hl := hxs.length
    refine for_list (xs := xs) (fun i σ H => ∃ δ, I i δ ∧ St c σ H δ (ρ ++ [(.ref a, .lv xs ts)])) ⟨δ1, h0, F1, g1, S3.drop.push (p := (V.ref a, SV.lv xs ts)) ⟨a, rfl, SqL.of hx, hxs⟩⟩ (fun i σ H _ ⟨δ, _, F, g, S⟩ => ?_) ?_ ?_
    · obtain ⟨b, e, hx, _⟩ := S.last
      cases e; exact S.fh.sql hx
    · rintro i x σ2 H2 hi ⟨δ2, k, F2, g2, S4⟩
      obtain ⟨b, e, hx2, hxs2⟩ := id S4.last
      cases e
      obtain ⟨t, ht, hxt⟩ := hxs2.get' hi
      refine hs i t δ2 ht k x σ2 H2 _ _ ⟨F2, g2, S4, hxt⟩ fun σ3 H3 δ3 k3 S6 _ => k3 σ3 H3 _ _ S6 (M.turn fun σ H δ k S => ⟨δ, k, S⟩)
    · rintro σ2 H2 ⟨δ2, k, S4⟩
      rw [hl] at k
      exact M.nx σ2 H2 δ2 (hd δ2 k) S4.drop
theorem es_forT (h : EV c tl δ fun δ1 r => ∃ ts, r = .d (.tup ts) ∧ ∃ I : Nat → List SV → Prop, I 0 δ1 ∧
    (∀ i t δ, ts[i]? = some t → I i δ → GT c g All (.d t) δ fun δ2 => ES c tb δ2 { R with nx := I (i + 1), ct := I (i + 1), bk := R.nx }) ∧ ∀ δ, I ts.length δ → R.nx δ) : ES c (tFor (iTup c.B.K tl) g tb) δ R := fun σ H ρ D S M =>
  h σ H ρ _ S fun v H1 δ1 r ⟨ts, p, I, h0, hs, hd⟩ S1 => by
    subst p
    obtain ⟨F1, g1, S3⟩ := S1.push
    have hv : DV c.B F1 v (.tup ts) := S3.last
    simp only [DV] at hv
    obtain ⟨a, xs, rfl, hx, hxs⟩ := hv
    refine ⟨a, rfl, ⟨xs, S3.fh.sqt hx⟩, ?_⟩
    have hl := hxs.length
    refine for_tup (xs := xs) (fun i σ H => ∃ δ, I i δ ∧ St c σ H δ (ρ ++ [(.ref a, .tv xs ts)])) ⟨δ1, h0, F1, g1, S3.drop.push (p := (V.ref a, SV.tv xs ts)) ⟨a, rfl, hx, hxs⟩⟩ (fun i σ H _ ⟨δ, _, F, g, S⟩ => ?_) ?_ ?_
    · obtain ⟨b, e, hx, _⟩ := S.last
      cases e; exact S.fh.sqt hx
    · rintro i x σ2 H2 hi ⟨δ2, k, F2, g2, S4⟩
      obtain ⟨b, e, hx2, hxs2⟩ := id S4.last
      cases e
      obtain ⟨t, ht, hxt⟩ := hxs2.get' hi
      refine hs i t δ2 ht k x σ2 H2 _ _ ⟨F2, g2, S4, hxt⟩ fun σ3 H3 δ3 k3 S6 _ => k3 σ3 H3 _ _ S6 (M.turn fun σ H δ k S => ⟨δ, k, S⟩)
    · rintro σ2 H2 ⟨δ2, k, S4⟩
      rw [hl] at k
      exact M.nx σ2 H2 δ2 (hd δ2 k) S4.drop
/-- for over a list that slot j owns, and that the body leaves as it is -/
theorem es_forO (h : EV c tl δ fun δ1 r => ∃ (a : Addr) (ts : List T), r = .ptr a ∧ ∃ I : Nat → List SV → Prop, I 0 δ1 ∧ (∀ i δ, I i δ → ∃ j : Nat, δ[j]? = some (SV.own a (.lst ts)) ∨ δ[j]? = some (SV.arg a (.lst ts))) ∧
    (∀ i t δ, ts[i]? = some t → I i δ → GT c g All (.d t) δ fun δ2 => ES c tb δ2 { R with nx := I (i + 1), ct := I (i + 1), bk := R.nx }) ∧ ∀ δ, I ts.length δ → R.nx δ) : ES c (tFor (iList c.B.K tl) g tb) δ R := fun σ H ρ D S M =>
  h σ H ρ _ S fun v H1 δ1 r ⟨a, ts, p, I, h0, hj, hs, hd⟩ S1 => by
    subst p
    obtain ⟨F1, g1, S3, e⟩ := S1
    have e : v = .ref a := e
    subst e
    have at_ : ∀ {i : Nat} {δ : List SV} {σ : L2.St} {H : Hp} {F g}, I i δ → StF c F g σ H δ ρ → ∃ xs, H a = some (.lst xs) ∧ DVs c.B F xs ts := fun {i δ σ H F g} k S => by
      obtain ⟨j, q | q⟩ := hj i δ k
      · exact (S.sl j _ q).2.2.2
      · exact (S.sl j _ q).2.2.2
    obtain ⟨xs0, h00, d00⟩ := at_ h0 S3
    refine ⟨a, rfl, ⟨xs0, SqL.of h00⟩, ?_⟩
    refine ⟨fun i m σ H => m = ts.length - i ∧ i ≤ ts.length ∧ ∃ δ, I i δ ∧ St c σ H δ ρ, ⟨ts.length, by simp, Nat.zero_le _, δ1, h0, F1, g1, S3⟩, ?_⟩
    rintro i m σ2 H2 ⟨rfl, hi, δ2, k, F2, g2, S4⟩
    obtain ⟨xs, hx, hxs⟩ := at_ k S4
    have hl := hxs.length
    by_cases hlt : i < ts.length
    · obtain ⟨t, ht⟩ : ∃ t, ts[i]? = some t := ⟨ts[i], by simp [hlt]⟩
      obtain ⟨x, e1, hxt⟩ := hxs.get ht
      refine .inr ⟨⟨xs, x, SqL.of hx, e1⟩, fun σ H => ∃ δ, I (i + 1) δ ∧ St c σ H δ ρ, fun σ' H' p' => ⟨ts.length - (i + 1), by omega, rfl, hlt, p'⟩, fun y H' q => ?_⟩
      obtain ⟨e, q⟩ := q
      subst e
      have := q xs (SqL.of hx)
      rw [e1] at this; cases this
      have M' := M.turn (ρ' := []) (I := I (i + 1)) (N := fun σ H => ∃ δ, I (i + 1) δ ∧ St c σ H δ ρ) fun σ H δ k S => ⟨δ, k, by simpa using S⟩
      refine hs i t δ2 ht k x σ2 _ ρ _ ⟨F2, g2, S4, hxt⟩ fun σ3 H3 δ3 k3 S6 _ => k3 σ3 H3 _ _ S6 (by simpa using M')
    · have e : i = ts.length := by omega
      subst e
      exact .inl ⟨⟨xs, SqL.of hx, by omega⟩, M.nx σ2 H2 δ2 (hd δ2 k) ⟨F2, g2, S4⟩⟩
theorem DV.int_ {B : Bs} {F : Hp} {v : V} {i : Int} (h : DV B F v (.int i)) : v = .int i := by simpa only [DV] using h
theorem DV.bl_ {B : Bs} {F : Hp} {v : V} {i : Bool} (h : DV B F v (.bl i)) : v = .bl i := by simpa only [DV] using h
theorem DV.str_ {B : Bs} {F : Hp} {v : V} {i : Str} (h : DV B F v (.str i)) : v = .str i := by simpa only [DV] using h
theorem DV.non_ {B : Bs} {F : Hp} {v : V} (h : DV B F v .non) : v = .non := by simpa only [DV] using h
theorem one_int {c : Cn} {σ : L2.St} {H : Hp} {δ : List SV} {ρ : List (V × SV)} {vs : List V} {n : Int} (hl : vs.length = [SV.d (.int n)].length) (S : St c σ H δ (ρ ++ vs.zip [SV.d (.int n)])) : vs = [.int n] ∧ St c σ H δ ρ := by
  obtain ⟨F, g, S', h⟩ := St.args (ts := [.int n]) hl S
  match vs, hl, h with
  | [v], _, h => exact ⟨by rw [h.uncons.1.int_], F, g, S'⟩
/-- for over range(n) -/
theorem es_forR (h : EVA c ta δ fun δ1 rs => ∃ n : Nat, rs = [.d (.int n)] ∧ (n : Int) < 2 ^ 62 ∧ ∃ I : Nat → List SV → Prop, I 0 δ1 ∧
    (∀ i δ, i < n → I i δ → GT c g All (.d (.int (i : Nat))) δ fun δ2 => ES c tb δ2 { R with nx := I (i + 1), ct := I (i + 1), bk := R.nx }) ∧ ∀ δ, I n δ → R.nx δ) : ES c (tFor (iRng1 ta) g tb) δ R := fun σ H ρ D S M =>
  h σ H ρ _ S fun vs H1 δ1 rs ⟨n, e, hn, I, h0, hs, hd⟩ hl S1 => by
    subst e
    obtain ⟨rfl, S2⟩ := one_int hl S1
    refine ⟨(n : Int), rfl, by omega, hn, ?_⟩
    refine for_range (lo := 0) (n := (n : Int).toNat) (fun i σ H => ∃ δ, I i δ ∧ St c σ H δ ρ) ⟨δ1, h0, S2⟩ ?_ ?_
    · rintro i σ2 H2 hi ⟨δ2, k, S4⟩
      have hi' : i < n := by omega
      have e0 : (0 : Int) + (i : Int) = (i : Int) := Int.zero_add _
      rw [e0]
      have M' := M.turn (ρ' := []) (I := I (i + 1)) (N := fun σ H => ∃ δ, I (i + 1) δ ∧ St c σ H δ ρ) fun σ H δ k S => ⟨δ, k, by simpa using S⟩
      refine hs i δ2 hi' k _ σ2 H2 ρ _ (S4.flat rfl) fun σ3 H3 δ3 k3 S6 _ => k3 σ3 H3 _ _ S6 (by simpa using M')
    · rintro σ2 H2 ⟨δ2, k, S4⟩
      have e : (n : Int).toNat = n := by omega
      rw [e] at k
      exact M.nx σ2 H2 δ2 (hd δ2 k) S4
/-- while: W falls -/
theorem es_while {tt : TT} (W : Nat → List SV → Prop) (m0 : Nat) (h0 : W m0 δ)
    (hs : ∀ m δ, W m δ → EVT c tt δ fun δ1 b => if b = true then ES c tb δ1 { R with nx := fun δ2 => ∃ m', m' < m ∧ W m' δ2, ct := fun δ2 => ∃ m', m' < m ∧ W m' δ2, bk := R.nx } else R.nx δ1) : ES c (tWhile tt tb) δ R := fun σ H ρ D S M => by
  refine ⟨fun m σ H => ∃ δ, W m δ ∧ St c σ H δ ρ, ⟨m0, δ, h0, S⟩, ?_⟩
  rintro m σ2 H2 ⟨δ2, k, S2⟩
  refine hs m δ2 k σ2 H2 ρ _ S2 fun b H3 δ3 k3 S3 => ?_
  cases b with
  | true =>
    have k4 : ES c tb δ3 { R with nx := fun δ2 => ∃ m', m' < m ∧ W m' δ2, ct := fun δ2 => ∃ m', m' < m ∧ W m' δ2, bk := R.nx } := k3
    refine ⟨fun σ' H' => ∃ m', m' < m ∧ ∃ δ, W m' δ ∧ St c σ' H' δ ρ, fun σ' H' ⟨m', l, q⟩ => ⟨m', l, q⟩, ?_⟩
    have M' := M.turn (ρ' := []) (I := fun δ2 => ∃ m', m' < m ∧ W m' δ2) (N := fun σ' H' => ∃ m', m' < m ∧ ∃ δ, W m' δ ∧ St c σ' H' δ ρ) fun σ H δ ⟨m', l, k⟩ S => ⟨m', l, δ, k, by simpa using S⟩
    exact k4 σ2 H3 ρ _ S3 (by simpa using M')
  | false => exact M.nx σ2 H3 δ3 k3 S3
end
end DL

namespace DL
open PySem L2

/-! ### comprehensions -/
def wd (δ : List SV) : List Nat → List SV
  | [] => δ
  | v :: vs => (wd δ vs).set v .no
theorem wd_len (δ : List SV) : ∀ vs, (wd δ vs).length = δ.length
  | [] => rfl
  | v :: vs => by unfold wd; rw [List.length_set, wd_len δ vs]
theorem wd_get (δ : List SV) : ∀ (vs : List Nat) (i : Nat), (wd δ vs)[i]? = if i ∈ vs then (if i < δ.length then some .no else none) else δ[i]?
  | [], i => by simp [wd]
  | v :: vs, i => by
    unfold wd
    by_cases h : v = i
    · subst h
      rw [if_pos (List.mem_cons_self)]
      by_cases hl : v < δ.length
      · rw [List.getElem?_set_self (by rw [wd_len]; exact hl), if_pos hl]
      · rw [if_neg hl, List.getElem?_eq_none_iff]
        rw [List.length_set, wd_len]; omega
    · rw [List.getElem?_set_ne h, wd_get δ vs i]
      by_cases hi : i ∈ vs
      · rw [if_pos hi, if_pos (List.mem_cons_of_mem _ hi)]
      · rw [if_neg hi, if_neg (fun z => (List.mem_cons.mp z).elim (fun e => h e.symm) hi)]
theorem wipe_len (σ : L2.St) : ∀ vs, (wipe σ vs).length = σ.length := wipe_length σ
theorem wipe_get (σ : L2.St) : ∀ (vs : List Nat) (i : Nat), (wipe σ vs)[i]? = if i ∈ vs then (if i < σ.length then some none else none) else σ[i]?
  | [], i => by simp [wipe]
  | v :: vs, i => by
    unfold wipe
    by_cases h : v = i
    · subst h
      rw [if_pos (List.mem_cons_self)]
      by_cases hl : v < σ.length
      · rw [List.getElem?_set_self (by rw [wipe_len]; exact hl), if_pos hl]
      · rw [if_neg hl, List.getElem?_eq_none_iff]
        rw [List.length_set, wipe_len]; omega
    · rw [List.getElem?_set_ne h, wipe_get σ vs i]
      by_cases hi : i ∈ vs
      · rw [if_pos hi, if_pos (List.mem_cons_of_mem _ hi)]
      · rw [if_neg hi, if_neg (fun z => (List.mem_cons.mp z).elim (fun e => h e.symm) hi)]
theorem wipe_only {vs : List Nat} {σ σ' : L2.St} (o : OnlyAt (· ∈ vs) σ σ') : wipe σ' vs = wipe σ vs := by
  apply List.ext_getElem?
  intro i
  rw [wipe_get, wipe_get, o.1]
  by_cases hi : i ∈ vs
  · rw [if_pos hi, if_pos hi]
  · rw [if_neg hi, if_neg hi, o.2 i hi]
theorem wipe_wipe (σ : L2.St) (vs : List Nat) : wipe (wipe σ vs) vs = wipe σ vs := by
  apply List.ext_getElem?
  intro i
  rw [wipe_get, wipe_len]
  by_cases hi : i ∈ vs
  · rw [if_pos hi, wipe_get, if_pos hi]
  · rw [if_neg hi]
section
variable {c : Cn} {F : Hp} {g : Addr → Option Loc} {σ σ' : L2.St} {H H' : Hp} {δ δ' : List SV} {ρ : List (V × SV)} {vs : List Nat}
theorem StF.wipe (S : StF c F g σ H δ ρ) (vs : List Nat) : StF c F g (wipe σ vs) H (wd δ vs) ρ :=
  ⟨S.fh, S.f0, S.fn, S.h0, by rw [wipe_len, wd_len]; exact S.len, fun i s e => by
    rw [wd_get] at e
    by_cases hi : i ∈ vs
    · rw [if_pos hi] at e
      split at e
      · cases e; trivial
      · cases e
    · rw [if_neg hi] at e
      rw [wipe_get, if_neg hi]
      exact S.sl i s e, S.tm, S.gn, S.an⟩
/-- behind a block: the slots outside of vs are as they were -/
theorem StF.unwipe (S : StF c F g σ' H δ ρ) (o : L2.wipe σ' vs = L2.wipe σ vs) : StF c F g σ H (wd δ vs) ρ := by
  have hlen : σ'.length = σ.length := by rw [← wipe_len σ' vs, o, wipe_len]
  refine ⟨S.fh, S.f0, S.fn, S.h0, by rw [wd_len, ← S.len, hlen], fun i s e => ?_, S.tm, S.gn, S.an⟩
  rw [wd_get] at e
  by_cases hi : i ∈ vs
  · rw [if_pos hi] at e
    split at e
    · cases e; trivial
    · cases e
  · rw [if_neg hi] at e
    have q := congrArg (·[i]?) o
    simp only [wipe_get, if_neg hi] at q
    rw [← q]
    exact S.sl i s e
/-- the new list of a comprehension -/
theorem StF.retag {p : Addr} {l : Loc} (S : StF c F g σ H δ ρ) (hg : g p = some .top) : StF c F (fun b => if b = p then some l else g b) σ H δ ρ :=
  ⟨S.fh, S.f0, S.fn, S.h0, S.len, fun i s e => (S.sl i s e).at p (by rw [hg]; intro z; cases z), fun n q e => (S.tm n q e).at p (by rw [hg]; intro z; cases z), fun a l' e => by
    by_cases q : a = p
    · rw [q]; exact S.gn p _ hg
    · rw [if_neg q] at e; exact S.gn a l' e, S.an⟩
/-- the temporary on top, owned, changes -/
theorem StF.updT {a : Addr} {o o' : OW} {u : HO} (S : StF c F g σ H δ (ρ ++ [(.ref a, .own a o)])) (hn : OwAt c.B F (upd H a u) a o') : StF c F g σ (upd H a u) δ (ρ ++ [(.ref a, .own a o')]) := by
  obtain ⟨_, h1, h2, h3⟩ := S.last
  obtain ⟨hF, _⟩ := S.gn a _ h1
  have hA : c.A ≠ some a := fun q => by
    obtain ⟨_, _, o, ho⟩ := S.an a q
    rw [h2] at ho; cases ho
  have S0 := S.drop
  have base : StF c F g σ (upd H a u) δ ρ := by
    refine ⟨S.fh.upd2 hF, S.f0, S.fn, fun b o e hb => ?_, S.len, fun j s e => (S0.sl j s e).mono (Ex.refl F) (fun _ h => h) fun b hb => upd_ne fun z => (by rw [z, h1] at hb; cases hb), fun n p e => (S0.tm n p e).mono (Ex.refl F) (fun _ h => h) (fun b hb => upd_ne fun z => by
        rw [z, h1] at hb
        injection hb with hb; injection hb with hb
        have := (List.getElem?_eq_some_iff.mp e).1
        omega), fun b l e => ?_, fun b e => ?_⟩
    · have : b ≠ a := fun q => by rw [q, h2] at e; cases e
      rw [upd_ne this]; exact S.h0 b o e hb
    · obtain ⟨x1, x2⟩ := S.gn b l e
      refine ⟨x1, ?_⟩
      by_cases q : b = a
      · exact ⟨u, by rw [q, upd_same]⟩
      · rw [upd_ne q]; exact x2
    · obtain ⟨x1, x2, x3⟩ := S.an b e
      exact ⟨x1, by rw [upd_ne (fun q => hA (by rw [← q]; exact e))]; exact x2, x3⟩
  exact base.push ⟨rfl, h1, h2, hn⟩
end
def EVTs (c : Cn) (tt : TT) (δ : List SV) (Post : List SV → Bool → Prop) : Prop := EVT c tt δ Post
section
variable {c : Cn} {δ : List SV} {Post : List SV → SV → Prop} {tl te : TE} {ta : TA} {g : TG} {tt : TT} {vs : List Nat}
theorem et_yes {P : List SV → Bool → Prop} (k : P δ true) : EVT c tYes δ P := fun σ H ρ Q S q => q true H δ k S
/-- one turn of a comprehension, the new list a temporary -/
theorem lc_turn {σ : L2.St} {ρ : List (V × SV)} {J : List T → List SV → Prop} {Dl : Addr} {t : T} {x : V} {F : Hp} {gg : Addr → Option Loc} {H : Hp} {δ : List SV} {acc : List T}
    (hz : acc.length < sizeLine)
    (hs : GT c g (· ∈ vs) (.d t) (wd δ vs) fun δ2 => EVT c tt δ2 fun δ3 b => if b = true then EV c te δ3 fun δ4 r => ∃ t', Pu r (.d t') ∧ J (acc ++ [t']) (wd δ4 vs) else J acc (wd δ3 vs))
    (S : StF c F gg σ H δ (ρ ++ [(.ref Dl, .own Dl (.lst acc))])) (hx : DV c.B F x t) (Nx : Hp → Prop) (hN : ∀ H' acc' δ', J acc' δ' → St c σ H' δ' (ρ ++ [(.ref Dl, .own Dl (.lst acc'))]) → Nx H') :
    g x (wipe σ vs) H fun σ2 H2 => wipe σ2 vs = wipe σ vs ∧ tt σ2 H2 fun b H3 => if b = true then te σ2 H3 fun y H4 => ∃ ac, H4 Dl = some (.lst ac) ∧ ac.length < sizeLine ∧ Nx (upd H4 Dl (.lst (ac ++ [y]))) else Nx H3 := by
  have S1 := S.wipe vs
  refine hs x (wipe σ vs) H _ _ ⟨F, gg, S1, hx⟩ fun σ2 H2 δ2 k2 S2 o => ?_
  have e2 : wipe σ2 vs = wipe σ vs := (wipe_only o).trans (wipe_wipe σ vs)
  refine ⟨e2, k2 σ2 H2 _ _ S2 fun b H3 δ3 k3 S3 => ?_⟩
  cases b with
  | true =>
    show te σ2 H3 fun y H4 => ∃ ac, H4 Dl = some (.lst ac) ∧ ac.length < sizeLine ∧ Nx (upd H4 Dl (.lst (ac ++ [y])))
    refine (show EV c te δ3 fun δ4 r => ∃ t', Pu r (.d t') ∧ J (acc ++ [t']) (wd δ4 vs) from k3) σ2 H3 _ _ S3 fun y H4 δ4 r ⟨t', p, k4⟩ S4 => ?_
    obtain ⟨F5, g5, S5⟩ := S4.put p
    have hy : DV c.B F5 y t' := S5.last
    have S6 := S5.drop
    obtain ⟨_, h1, h2, ac, hac, hd⟩ := S6.last
    refine ⟨ac, hac, by rw [hd.length]; exact hz, hN _ (acc ++ [t']) _ k4 ⟨F5, g5, ?_⟩⟩
    exact (S6.updT (o' := .lst (acc ++ [t'])) (u := .lst (ac ++ [y])) ⟨_, upd_same, hd.snoc hy⟩).unwipe e2
  | false =>
    obtain ⟨F3, g3, S3⟩ := S3
    exact hN _ acc _ k3 ⟨F3, g3, S3.unwipe e2⟩
theorem lc_start {σ : L2.St} {H : Hp} {ρ : List (V × SV)} {F : Hp} {gg : Addr → Option Loc} {Dl : Addr} {δ : List SV} (S : StF c F gg σ H δ ρ) (hD : H Dl = none) : ∃ g', StF c F g' σ (upd H Dl (.lst [])) (wd δ vs) (ρ ++ [(.ref Dl, .own Dl (.lst []))]) := by
  obtain ⟨g', S1, h1, h2, h3⟩ := S.newOwn (u := .lst []) hD
  have S2 := (S1.retag (l := .tmp ρ.length) h1).push (p := (.ref Dl, .own Dl (.lst []))) ⟨rfl, if_pos rfl, h3, [], upd_same, .nil⟩
  exact ⟨_, S2.unwipe rfl⟩
theorem lc_end {σ : L2.St} {H : Hp} {ρ : List (V × SV)} {Dl : Addr} {δ : List SV} {acc : List T} (S : St c σ H δ (ρ ++ [(.ref Dl, .own Dl (.lst acc))])) : St1 c σ H δ ρ (.ref Dl) (.own Dl (.lst acc)) := by
  obtain ⟨F, g, S⟩ := S
  obtain ⟨_, h1, h2, h3⟩ := S.last
  have S0 := S.drop
  refine ⟨F, fun b => if b = Dl then some .top else g b, ⟨S0.fh, S0.f0, S0.fn, S0.h0, S0.len, fun i s e => (S0.sl i s e).at Dl (by rw [h1]; intro z; cases z), fun n q e => (S0.tm n q e).at Dl (fun z => ?_), fun a l' e => ?_, S0.an⟩, rfl, if_pos rfl, h2, h3⟩
  · rw [h1] at z
    injection z with z; injection z with z
    have := (List.getElem?_eq_some_iff.mp e).1
    omega
  · by_cases q : a = Dl
    · rw [q]; exact S0.gn Dl _ h1
    · rw [if_neg q] at e; exact S0.gn a l' e
/-- over a list of data -/
theorem ev_lcL (h : EV c tl δ fun δ1 r => ∃ ts, Pu r (.d (.lst ts)) ∧ ts.length ≤ sizeLine ∧ ∃ I : Nat → List T → List SV → Prop, I 0 [] (wd δ1 vs) ∧
    (∀ i t acc δ, ts[i]? = some t → acc.length ≤ i → I i acc δ → GT c g (· ∈ vs) (.d t) (wd δ vs) fun δ2 => EVT c tt δ2 fun δ3 b => if b = true then EV c te δ3 fun δ4 r => ∃ t', Pu r (.d t') ∧ I (i + 1) (acc ++ [t']) (wd δ4 vs) else I (i + 1) acc (wd δ3 vs)) ∧
    ∀ acc δ, acc.length ≤ ts.length → I ts.length acc δ → ∀ p, Post δ (.own p (.lst acc))) : EV c (tLc (iList c.B.K tl) g tt te vs) δ Post := fun σ H ρ Q S q =>
  h σ H ρ _ S fun v H1 δ1 r ⟨ts, p, hz, I, h0, hs, hd⟩ S1 => by
    obtain ⟨F1, g1, S3⟩ := S1.put p
    have hv : DV c.B F1 v (.lst ts) := S3.last
    simp only [DV] at hv
    obtain ⟨a, xs, rfl, hx, hxs⟩ := hv
    refine ⟨a, rfl, ⟨xs, SqL.of (S3.fh _ _ hx)⟩, fun Dl hD => ?_⟩
    have hl := hxs.length
    have S4 : StF c F1 g1 σ H1 δ1 (ρ ++ [(V.ref a, SV.lv xs ts)]) := S3.drop.push ⟨a, rfl, SqL.of hx, hxs⟩
    obtain ⟨g2, S5⟩ := lc_start (vs := vs) S4 hD
    refine lc_list (xs := xs) (fun i H => ∃ acc δ, acc.length ≤ i ∧ I i acc δ ∧ St c σ H δ ((ρ ++ [(V.ref a, SV.lv xs ts)]) ++ [(.ref Dl, .own Dl (.lst acc))])) ⟨[], _, Nat.le_refl _, h0, F1, g2, S5⟩ (fun i H _ ⟨acc, δ, _, _, F, g, S⟩ => ?_) ?_ ?_
    · obtain ⟨b, e, hx, _⟩ := S.drop.last
      cases e; exact S.fh.sql hx
    · rintro i x H2 hi ⟨acc, δ2, hlen, k, F2, gg, S6⟩
      obtain ⟨b, e, hx2, hxs2⟩ := id S6.drop.last
      cases e
      obtain ⟨t, ht, hxt⟩ := hxs2.get' hi
      have hlt := (List.getElem?_eq_some_iff.mp ht).1
      refine lc_turn (J := fun acc δ => acc.length ≤ i + 1 ∧ I (i + 1) acc δ) (by omega) ?_ S6 hxt _ fun H' acc' δ' k S => ⟨acc', δ', k.1, k.2, S⟩
      refine fun v σ H ρ Q S q => hs i t acc δ2 ht hlen k v σ H ρ Q S fun σ' H' δ' k' S' o => q σ' H' δ' (fun σ H ρ Q S q => k' σ H ρ Q S fun b H' δ' k' S' => q b H' δ' ?_ S') S' o
      cases b with
      | true => exact fun σ H ρ Q S q => (show EV c te δ' fun δ4 r => ∃ t', Pu r (.d t') ∧ I (i + 1) (acc ++ [t']) (wd δ4 vs) from k') σ H ρ Q S fun v H' δ' r ⟨t', p, kk⟩ S' => q v H' δ' r ⟨t', p, by rw [List.length_append, List.length_singleton]; omega, kk⟩ S'
      | false => exact ⟨Nat.le_succ_of_le hlen, k'⟩
    · rintro H2 ⟨acc, δ2, hlen, k, S6⟩
      rw [hl] at k hlen
      have S7 := lc_end S6
      obtain ⟨F, g, S7, t7⟩ := S7
      exact q _ H2 δ2 _ (hd acc δ2 hlen k Dl) ⟨F, g, S7.drop, t7⟩
theorem ev_lcT (h : EV c tl δ fun δ1 r => ∃ ts, r = .d (.tup ts) ∧ ts.length ≤ sizeLine ∧ ∃ I : Nat → List T → List SV → Prop, I 0 [] (wd δ1 vs) ∧
    (∀ i t acc δ, ts[i]? = some t → acc.length ≤ i → I i acc δ → GT c g (· ∈ vs) (.d t) (wd δ vs) fun δ2 => EVT c tt δ2 fun δ3 b => if b = true then EV c te δ3 fun δ4 r => ∃ t', Pu r (.d t') ∧ I (i + 1) (acc ++ [t']) (wd δ4 vs) else I (i + 1) acc (wd δ3 vs)) ∧
    ∀ acc δ, acc.length ≤ ts.length → I ts.length acc δ → ∀ p, Post δ (.own p (.lst acc))) : EV c (tLc (iTup c.B.K tl) g tt te vs) δ Post := fun σ H ρ Q S q =>
  h σ H ρ _ S fun v H1 δ1 r ⟨ts, p, hz, I, h0, hs, hd⟩ S1 => by
    subst p
    obtain ⟨F1, g1, S3⟩ := S1.push
    have hv : DV c.B F1 v (.tup ts) := S3.last
    simp only [DV] at hv
    obtain ⟨a, xs, rfl, hx, hxs⟩ := hv
    refine ⟨a, rfl, ⟨xs, S3.fh.sqt hx⟩, fun Dl hD => ?_⟩
    have hl := hxs.length
    have S4 : StF c F1 g1 σ H1 δ1 (ρ ++ [(V.ref a, SV.tv xs ts)]) := S3.drop.push ⟨a, rfl, hx, hxs⟩
    obtain ⟨g2, S5⟩ := lc_start (vs := vs) S4 hD
    refine lc_tup (xs := xs) (fun i H => ∃ acc δ, acc.length ≤ i ∧ I i acc δ ∧ St c σ H δ ((ρ ++ [(V.ref a, SV.tv xs ts)]) ++ [(.ref Dl, .own Dl (.lst acc))])) ⟨[], _, Nat.le_refl _, h0, F1, g2, S5⟩ (fun i H _ ⟨acc, δ, _, _, F, g, S⟩ => ?_) ?_ ?_
    · obtain ⟨b, e, hx, _⟩ := S.drop.last
      cases e; exact S.fh.sqt hx
    · rintro i x H2 hi ⟨acc, δ2, hlen, k, F2, gg, S6⟩
      obtain ⟨b, e, hx2, hxs2⟩ := id S6.drop.last
      cases e
      obtain ⟨t, ht, hxt⟩ := hxs2.get' hi
      have hlt := (List.getElem?_eq_some_iff.mp ht).1
      refine lc_turn (J := fun acc δ => acc.length ≤ i + 1 ∧ I (i + 1) acc δ) (by omega) ?_ S6 hxt _ fun H' acc' δ' k S => ⟨acc', δ', k.1, k.2, S⟩
      refine fun v σ H ρ Q S q => hs i t acc δ2 ht hlen k v σ H ρ Q S fun σ' H' δ' k' S' o => q σ' H' δ' (fun σ H ρ Q S q => k' σ H ρ Q S fun b H' δ' k' S' => q b H' δ' ?_ S') S' o
      cases b with
      | true => exact fun σ H ρ Q S q => (show EV c te δ' fun δ4 r => ∃ t', Pu r (.d t') ∧ I (i + 1) (acc ++ [t']) (wd δ4 vs) from k') σ H ρ Q S fun v H' δ' r ⟨t', p, kk⟩ S' => q v H' δ' r ⟨t', p, by rw [List.length_append, List.length_singleton]; omega, kk⟩ S'
      | false => exact ⟨Nat.le_succ_of_le hlen, k'⟩
    · rintro H2 ⟨acc, δ2, hlen, k, S6⟩
      rw [hl] at k hlen
      have S7 := lc_end S6
      obtain ⟨F, g, S7, t7⟩ := S7
      exact q _ H2 δ2 _ (hd acc δ2 hlen k Dl) ⟨F, g, S7.drop, t7⟩
/-- over range(n) -/
theorem ev_lcR (h : EVA c ta δ fun δ1 rs => ∃ n : Nat, rs = [.d (.int n)] ∧ n ≤ sizeLine ∧ ∃ I : Nat → List T → List SV → Prop, I 0 [] (wd δ1 vs) ∧
    (∀ i acc δ, i < n → acc.length ≤ i → I i acc δ → GT c g (· ∈ vs) (.d (.int (i : Nat))) (wd δ vs) fun δ2 => EVT c tt δ2 fun δ3 b => if b = true then EV c te δ3 fun δ4 r => ∃ t', Pu r (.d t') ∧ I (i + 1) (acc ++ [t']) (wd δ4 vs) else I (i + 1) acc (wd δ3 vs)) ∧
    ∀ acc δ, acc.length ≤ n → I n acc δ → ∀ p, Post δ (.own p (.lst acc))) : EV c (tLc (iRng1 ta) g tt te vs) δ Post := fun σ H ρ Q S q =>
  h σ H ρ _ S fun us H1 δ1 rs ⟨n, e, hn, I, h0, hs, hd⟩ hl S1 => by
    subst e
    obtain ⟨rfl, F1, g1, S2⟩ := one_int hl S1
    have hn' := Nat.le_trans hn (show sizeLine ≤ 16777216 by rw [sizeLine_eq]; exact Nat.le_refl _)
    refine ⟨(n : Int), rfl, by omega, by omega, fun Dl hD => ?_⟩
    obtain ⟨g2, S5⟩ := lc_start (vs := vs) S2 hD
    refine lc_range (lo := 0) (n := (n : Int).toNat) (fun i H => ∃ acc δ, acc.length ≤ i ∧ I i acc δ ∧ St c σ H δ (ρ ++ [(.ref Dl, .own Dl (.lst acc))])) ⟨[], _, Nat.le_refl _, h0, F1, g2, S5⟩ ?_ ?_
    · rintro i H2 hi ⟨acc, δ2, hlen, k, F2, gg, S6⟩
      have hi' : i < n := by omega
      have e0 : (0 : Int) + (i : Int) = (i : Int) := Int.zero_add _
      rw [e0]
      refine lc_turn (t := .int (i : Nat)) (J := fun acc δ => acc.length ≤ i + 1 ∧ I (i + 1) acc δ) (by omega) ?_ S6 (by simp only [DV]) _ fun H' acc' δ' k S => ⟨acc', δ', k.1, k.2, S⟩
      refine fun v σ H ρ Q S q => hs i acc δ2 hi' hlen k v σ H ρ Q S fun σ' H' δ' k' S' o => q σ' H' δ' (fun σ H ρ Q S q => k' σ H ρ Q S fun b H' δ' k' S' => q b H' δ' ?_ S') S' o
      cases b with
      | true => exact fun σ H ρ Q S q => (show EV c te δ' fun δ4 r => ∃ t', Pu r (.d t') ∧ I (i + 1) (acc ++ [t']) (wd δ4 vs) from k') σ H ρ Q S fun v H' δ' r ⟨t', p, kk⟩ S' => q v H' δ' r ⟨t', p, by rw [List.length_append, List.length_singleton]; omega, kk⟩ S'
      | false => exact ⟨Nat.le_succ_of_le hlen, k'⟩
    · rintro H2 ⟨acc, δ2, hlen, k, S6⟩
      have e : (n : Int).toNat = n := by omega
      rw [e] at k hlen
      exact q _ H2 δ2 _ (hd acc δ2 hlen k Dl) (lc_end S6)
end
end DL

namespace DL
open PySem L2

/-! ### operators -/
section
variable {c : Cn} {δ : List SV} {Post : List SV → SV → Prop} {σ : L2.St} {H : Hp} {ρ : List (V × SV)} {x y : V}
theorem St.top2 {s1 s2 : SV} (S : St c σ H δ (ρ ++ [(x, s1)] ++ [(y, s2)])) : ∃ F g, StF c F g σ H δ ρ ∧ TempOk c F g H ρ.length (x, s1) ∧ TempOk c F g H (ρ.length + 1) (y, s2) := by
  obtain ⟨F, g, S⟩ := S
  have h := S.last
  rw [List.length_append, List.length_singleton] at h
  exact ⟨F, g, S.drop.drop, S.drop.last, h⟩
theorem St.top1 {s1 : SV} (S : St c σ H δ (ρ ++ [(x, s1)])) : ∃ F g, StF c F g σ H δ ρ ∧ TempOk c F g H ρ.length (x, s1) := by
  obtain ⟨F, g, S⟩ := S
  exact ⟨F, g, S.drop, S.last⟩
theorem St.ints {i j : Int} (S : St c σ H δ (ρ ++ [(x, SV.d (.int i))] ++ [(y, SV.d (.int j))])) : x = .int i ∧ y = .int j ∧ St c σ H δ ρ := by
  obtain ⟨F, g, S, h1, h2⟩ := S.top2
  exact ⟨DV.int_ (B := c.B) (F := F) h1, DV.int_ (B := c.B) (F := F) h2, F, g, S⟩
theorem St.strs {i j : Str} (S : St c σ H δ (ρ ++ [(x, SV.d (.str i))] ++ [(y, SV.d (.str j))])) : x = .str i ∧ y = .str j ∧ St c σ H δ ρ := by
  obtain ⟨F, g, S, h1, h2⟩ := S.top2
  exact ⟨DV.str_ (B := c.B) (F := F) h1, DV.str_ (B := c.B) (F := F) h2, F, g, S⟩
theorem o2_I0 {f : Int → Int → V} {i j : Int} {t : T} (hf : flat (f i j) t) (k : Post δ (.d t)) : OP2 c (rI0 f) δ (.d (.int i)) (.d (.int j)) Post := fun σ H ρ x y Q S q => by
  obtain ⟨e1, e2, S'⟩ := S.ints
  exact ⟨i, j, e1, e2, q _ H δ _ k (S'.flat hf)⟩
theorem o2_I {C : Int → Int → Prop} {f : Int → Int → V} {i j : Int} {t : T} (hc : C i j) (hf : flat (f i j) t) (k : Post δ (.d t)) : OP2 c (rI C f) δ (.d (.int i)) (.d (.int j)) Post := fun σ H ρ x y Q S q => by
  obtain ⟨e1, e2, S'⟩ := S.ints
  exact ⟨i, j, e1, e2, hc, q _ H δ _ k (S'.flat hf)⟩
/-! ### + of ints, texts, lists, tuples: one rule -/
def rStr : R2 := fun x y H Q => ∃ i j, x = .str i ∧ y = .str j ∧ i.length + j.length ≤ sizeLine ∧ Q (.str (i ++ j)) H
def uAdd (K : PySem.W.Frag) : R2 := fun x y H Q => rI0 (fun i j => .int (i + j)) x y H Q ∨ rStr x y H Q ∨ rCat x y H Q ∨ rCatT K x y H Q
theorem op_uAdd {X : Cx} : OpR X (binaryOp .Add) (uAdd X.K) := op_add.or (op_add_str.or (op_cat.or op_catT))
theorem o2_addI {i j : Int} (k : Post δ (.d (.int (i + j)))) : OP2 c (uAdd c.B.K) δ (.d (.int i)) (.d (.int j)) Post := fun σ H ρ x y Q S q => .inl (o2_I0 (f := fun i j => .int (i + j)) (t := .int (i + j)) rfl k σ H ρ x y Q S q)
theorem o2_addS {i j : Str} (hz : i.length + j.length ≤ sizeLine) (k : Post δ (.d (.str (i ++ j)))) : OP2 c (uAdd c.B.K) δ (.d (.str i)) (.d (.str j)) Post := fun σ H ρ x y Q S q => by
  obtain ⟨e1, e2, S'⟩ := S.strs
  exact .inr (.inl ⟨i, j, e1, e2, hz, q _ H δ _ k (S'.flat (t := .str (i ++ j)) rfl)⟩)
theorem StF.lst {F : Hp} {g : Addr → Option Loc} {n : Nat} {ts : List T} (S : StF c F g σ H δ ρ) (h : TempOk c F g H n (x, SV.d (.lst ts))) : ∃ a xs, x = .ref a ∧ H a = some (.lst xs) ∧ DVs c.B F xs ts := by
  have h : DV c.B F x (.lst ts) := h
  simp only [DV] at h
  obtain ⟨a, xs, e, h1, h2⟩ := h
  exact ⟨a, xs, e, S.fh _ _ h1, h2⟩
theorem StF.tup {F : Hp} {g : Addr → Option Loc} {n : Nat} {ts : List T} (S : StF c F g σ H δ ρ) (h : TempOk c F g H n (x, SV.d (.tup ts))) : ∃ a xs, x = .ref a ∧ SqT c.B.K H a xs ∧ DVs c.B F xs ts := by
  have h : DV c.B F x (.tup ts) := h
  simp only [DV] at h
  obtain ⟨a, xs, e, h1, h2⟩ := h
  exact ⟨a, xs, e, S.fh.sqt h1, h2⟩
theorem StF.newLst {F : Hp} {g : Addr → Option Loc} {p : Addr} {xs : List V} {ts : List T} (S : StF c F g σ H δ ρ) (hp : H p = none) (h : DVs c.B F xs ts) : St1 c σ (upd H p (.lst xs)) δ ρ (.ref p) (.own p (.lst ts)) := by
  obtain ⟨g', S', hg, _, h0⟩ := S.newOwn (u := .lst xs) hp
  exact ⟨F, g', S', rfl, hg, h0, xs, upd_same, h⟩
/-- what an owned name holds -/
def Owns (δ : List SV) (a : Addr) (o : OW) : Prop := ∃ j : Nat, δ[j]? = some (SV.own a o) ∨ δ[j]? = some (SV.arg a o)
theorem StF.owned {F : Hp} {g : Addr → Option Loc} {a : Addr} {o : OW} (S : StF c F g σ H δ ρ) (h : Owns δ a o) : OwAt c.B F H a o := by
  obtain ⟨j, h | h⟩ := h
  · exact (S.sl j _ h).2.2.2
  · exact (S.sl j _ h).2.2.2
/-- the items of a list: data, or what a name owns -/
inductive LstV (δ : List SV) : SV → List T → Prop
  | d {ts : List T} : LstV δ (.d (.lst ts)) ts
  | o {a : Addr} {ts : List T} : Owns δ a (.lst ts) → LstV δ (.ptr a) ts
theorem LstV.at {F : Hp} {g : Addr → Option Loc} {n : Nat} {ts : List T} {s : SV} (l : LstV δ s ts) (S : StF c F g σ H δ ρ) (h : TempOk c F g H n (x, s)) : ∃ a xs, x = .ref a ∧ H a = some (.lst xs) ∧ DVs c.B F xs ts := by
  cases l with
  | d => exact S.lst h
  | o w => obtain ⟨xs, h1, h2⟩ := S.owned w; exact ⟨_, xs, h, h1, h2⟩
theorem o2_cat {s1 s2 : SV} {ts us : List T} (l1 : LstV δ s1 ts) (l2 : LstV δ s2 us) (hz : ts.length + us.length ≤ sizeLine) (k : ∀ p, Post δ (.own p (.lst (ts ++ us)))) : OP2 c (uAdd c.B.K) δ s1 s2 Post := fun σ H ρ x y Q S q => by
  obtain ⟨F, g, S2, h1, h2⟩ := S.top2
  obtain ⟨a, xs, rfl, ha, da⟩ := l1.at S2 h1
  obtain ⟨b, ys, rfl, hb, db⟩ := l2.at S2 h2
  exact .inr (.inr (.inl ⟨a, b, xs, ys, rfl, rfl, ha, hb, by rw [da.length, db.length]; exact hz, fun p hp => q _ _ δ _ (k p) (S2.newLst hp (da.append db))⟩))
/-! ### subscripts -/
theorem atI_dvs {B : Bs} {F : Hp} {xs : List V} {ts : List T} {i : Int} {t : T} (h : DVs B F xs ts) (e : atI ts i = some t) : ∃ v, atI xs i = some v ∧ DV B F v t := by
  unfold atI at e ⊢
  rw [h.length]
  cases z : ixN ts.length i with
  | none => rw [z] at e; cases e
  | some j =>
    rw [z] at e
    obtain ⟨v, e1, e2⟩ := h.get (show ts[j]? = some t from e)
    exact ⟨v, e1, e2⟩
theorem o2_ixL {s : SV} {ts : List T} {i : Int} {t : T} (l : LstV δ s ts) (e : atI ts i = some t) (k : Post δ (.d t)) : OP2 c (rIx c.B.K) δ s (.d (.int i)) Post := fun σ H ρ x y Q S q => by
  obtain ⟨F, g, S2, h1, h2⟩ := S.top2
  obtain ⟨a, xs, rfl, ha, da⟩ := l.at S2 h1
  obtain ⟨v, e1, hv⟩ := atI_dvs da e
  exact .inl ⟨a, xs, i, v, rfl, DV.int_ (B := c.B) (F := F) h2, SqL.of ha, e1, q _ _ δ _ k ⟨F, g, S2, hv⟩⟩
theorem o2_ixR {ts : List T} {i : Int} {t : T} (e : atI ts i = some t) (k : Post δ (.d t)) : OP2 c (rIx c.B.K) δ (.d (.rl ts)) (.d (.int i)) Post := fun σ H ρ x y Q S q => by
  obtain ⟨F, g, S2, h1, h2⟩ := S.top2
  have h1 : DV c.B F x (.rl ts) := h1
  simp only [DV] at h1
  obtain ⟨a, xs, rfl, ha, da⟩ := h1
  obtain ⟨v, e1, hv⟩ := atI_dvs da e
  exact .inl ⟨a, xs, i, v, rfl, DV.int_ (B := c.B) (F := F) h2, S2.fh.sql ha, e1, q _ _ δ _ k ⟨F, g, S2, hv⟩⟩
theorem o2_ixT {ts : List T} {i : Int} {t : T} (e : atI ts i = some t) (k : Post δ (.d t)) : OP2 c (rIx c.B.K) δ (.d (.tup ts)) (.d (.int i)) Post := fun σ H ρ x y Q S q => by
  obtain ⟨F, g, S2, h1, h2⟩ := S.top2
  obtain ⟨a, xs, rfl, ha, da⟩ := S2.tup h1
  obtain ⟨v, e1, hv⟩ := atI_dvs da e
  exact .inr (.inl ⟨a, xs, i, v, rfl, DV.int_ (B := c.B) (F := F) h2, ha, e1, q _ _ δ _ k ⟨F, g, S2, hv⟩⟩)
theorem o2_ixS {z : Str} {i : Int} {n : Nat} (hz : z.length ≤ sizeLine) (e : atI z.cps.toList i = some n) (k : Post δ (.d (.str ⟨#[n]⟩))) : OP2 c (rIx c.B.K) δ (.d (.str z)) (.d (.int i)) Post := fun σ H ρ x y Q S q => by
  obtain ⟨F, g, S2, h1, h2⟩ := S.top2
  exact .inr (.inr ⟨z, i, n, DV.str_ (B := c.B) (F := F) h1, DV.int_ (B := c.B) (F := F) h2, hz, e, q _ _ δ _ k (St.flat ⟨F, g, S2⟩ (t := .str ⟨#[n]⟩) rfl)⟩)
/-! ### == and != of data -/
theorem o2_eq {t u : T} {d e : PyData} (h1 : t.py = some d) (h2 : u.py = some e) (s1 : SeqAt.shaped d = true) (s2 : SeqAt.shaped e = true) {b : Bool} (hb : PyData.eqv d e = b) (k : Post δ (.d (.bl b))) : OP2 c (rEqD c.B.K) δ (.d t) (.d u) Post := fun σ H ρ x y Q S q => by
  obtain ⟨F, g, S2, q1, q2⟩ := S.top2
  exact ⟨d, e, Dp.mono S2.fh d x (DV.dp t x d q1 h1), Dp.mono S2.fh e y (DV.dp u y e q2 h2), s1, s2, by rw [hb]; exact q _ _ δ _ k (St.flat ⟨F, g, S2⟩ (t := .bl b) rfl)⟩
theorem o2_ne {t u : T} {d e : PyData} (h1 : t.py = some d) (h2 : u.py = some e) (s1 : SeqAt.shaped d = true) (s2 : SeqAt.shaped e = true) {b : Bool} (hb : PyData.eqv d e = b) (k : Post δ (.d (.bl (!b)))) : OP2 c (rNeD c.B.K) δ (.d t) (.d u) Post := fun σ H ρ x y Q S q => by
  obtain ⟨F, g, S2, q1, q2⟩ := S.top2
  exact ⟨d, e, Dp.mono S2.fh d x (DV.dp t x d q1 h1), Dp.mono S2.fh e y (DV.dp u y e q2 h2), s1, s2, by rw [hb]; exact q _ _ δ _ k (St.flat ⟨F, g, S2⟩ (t := .bl (!b)) rfl)⟩
/-! ### is None -/
theorem o2_isN {t : T} {b : Bool} (hb : ∀ B F v, DV B F v t → decide (v = .non) = b) (k : Post δ (.d (.bl b))) : OP2 c (fun x y H Q => y = .non ∧ Q (.bl (decide (x = .non))) H) δ (.d t) (.d .non) Post := fun σ H ρ x y Q S q => by
  obtain ⟨F, g, S2, q1, q2⟩ := S.top2
  exact ⟨DV.non_ (B := c.B) (F := F) q2, by rw [hb c.B F x q1]; exact q _ _ δ _ k (St.flat ⟨F, g, S2⟩ (t := .bl b) rfl)⟩
theorem o2_notN {t : T} {b : Bool} (hb : ∀ B F v, DV B F v t → decide (v = .non) = b) (k : Post δ (.d (.bl (!b)))) : OP2 c (fun x y H Q => y = .non ∧ Q (.bl (!decide (x = .non))) H) δ (.d t) (.d .non) Post := fun σ H ρ x y Q S q => by
  obtain ⟨F, g, S2, q1, q2⟩ := S.top2
  exact ⟨DV.non_ (B := c.B) (F := F) q2, by rw [hb c.B F x q1]; exact q _ _ δ _ k (St.flat ⟨F, g, S2⟩ (t := .bl (!b)) rfl)⟩
/-! ### len, int, abs, max, min -/
theorem St.arg1 {s : SV} {vs : List V} (hl : vs.length = [s].length) (S : St c σ H δ (ρ ++ vs.zip [s])) : ∃ v, vs = [v] ∧ St c σ H δ (ρ ++ [(v, s)]) := by
  match vs, hl, S with
  | [v], _, S => exact ⟨v, rfl, S⟩
theorem St.arg2 {s s' : SV} {vs : List V} (hl : vs.length = [s, s'].length) (S : St c σ H δ (ρ ++ vs.zip [s, s'])) : ∃ v v', vs = [v, v'] ∧ St c σ H δ (ρ ++ [(v, s)] ++ [(v', s')]) := by
  match vs, hl, S with
  | [v, v'], _, S => exact ⟨v, v', rfl, by rw [List.append_assoc]; exact S⟩
def rLen (K : PySem.W.Frag) : List V → Hp → VK → Prop := fun xs H Q => ∃ x n, xs = [x] ∧ LenV K x H n ∧ Q (.int n) H
theorem oa_lenL {s : SV} {ts : List T} (l : LstV δ s ts) (k : Post δ (.d (.int ts.length))) : OPA c (rLen c.B.K) δ [s] Post := fun σ H ρ vs Q hl S q => by
  obtain ⟨v, rfl, S⟩ := S.arg1 hl
  obtain ⟨F, g, S2, h⟩ := S.top1
  obtain ⟨a, xs, rfl, ha, da⟩ := l.at S2 h
  exact ⟨_, _, rfl, .inl ⟨xs, SqL.of ha, rfl⟩, by rw [da.length]; exact q _ _ δ _ k (St.flat ⟨F, g, S2⟩ (t := .int ts.length) rfl)⟩
theorem oa_lenR {ts : List T} (k : Post δ (.d (.int ts.length))) : OPA c (rLen c.B.K) δ [.d (.rl ts)] Post := fun σ H ρ vs Q hl S q => by
  obtain ⟨v, rfl, S⟩ := S.arg1 hl
  obtain ⟨F, g, S2, h⟩ := S.top1
  have h : DV c.B F v (.rl ts) := h
  simp only [DV] at h
  obtain ⟨a, xs, rfl, ha, da⟩ := h
  exact ⟨_, _, rfl, .inl ⟨xs, S2.fh.sql ha, rfl⟩, by rw [da.length]; exact q _ _ δ _ k (St.flat ⟨F, g, S2⟩ (t := .int ts.length) rfl)⟩
theorem oa_lenT {ts : List T} (k : Post δ (.d (.int ts.length))) : OPA c (rLen c.B.K) δ [.d (.tup ts)] Post := fun σ H ρ vs Q hl S q => by
  obtain ⟨v, rfl, S⟩ := S.arg1 hl
  obtain ⟨F, g, S2, h⟩ := S.top1
  obtain ⟨a, xs, rfl, ha, da⟩ := S2.tup h
  exact ⟨_, _, rfl, .inr ⟨xs, ha, rfl⟩, by rw [da.length]; exact q _ _ δ _ k (St.flat ⟨F, g, S2⟩ (t := .int ts.length) rfl)⟩
theorem oa_lenS {z : Str} (hz : z.length ≤ sizeLine) (k : Post δ (.d (.int z.length))) : OPA c (rLen c.B.K) δ [.d (.str z)] Post := fun σ H ρ vs Q hl S q => by
  obtain ⟨v, rfl, S⟩ := S.arg1 hl
  obtain ⟨F, g, S2, h⟩ := S.top1
  have h : v = .str z := DV.str_ (B := c.B) (F := F) h
  subst h
  exact ⟨_, _, rfl, ⟨hz, rfl⟩, q _ _ δ _ k (St.flat ⟨F, g, S2⟩ (t := .int z.length) rfl)⟩
def rInt1 : List V → Hp → VK → Prop := fun xs H Q => (∃ i, xs = [.int i] ∧ Q (.int i) H) ∨ ∃ k, xs = [.bl k] ∧ Q (.int (if k then 1 else 0)) H
theorem oa_intI {i : Int} (k : Post δ (.d (.int i))) : OPA c rInt1 δ [.d (.int i)] Post := fun σ H ρ vs Q hl S q => by
  obtain ⟨v, rfl, S⟩ := S.arg1 hl
  obtain ⟨F, g, S2, h⟩ := S.top1
  have h : v = .int i := DV.int_ (B := c.B) (F := F) h
  subst h
  exact .inl ⟨i, rfl, q _ _ δ _ k (St.flat ⟨F, g, S2⟩ (t := .int i) rfl)⟩
theorem oa_intB {b : Bool} (k : Post δ (.d (.int (if b then 1 else 0)))) : OPA c rInt1 δ [.d (.bl b)] Post := fun σ H ρ vs Q hl S q => by
  obtain ⟨v, rfl, S⟩ := S.arg1 hl
  obtain ⟨F, g, S2, h⟩ := S.top1
  have h : v = .bl b := DV.bl_ (B := c.B) (F := F) h
  subst h
  exact .inr ⟨b, rfl, q _ _ δ _ k (St.flat ⟨F, g, S2⟩ (t := .int (if b then 1 else 0)) rfl)⟩
def rAbs1 : List V → Hp → VK → Prop := fun xs H Q => ∃ i, xs = [.int i] ∧ Q (.int (if i < 0 then -i else i)) H
theorem oa_abs {i : Int} (k : Post δ (.d (.int (if i < 0 then -i else i)))) : OPA c rAbs1 δ [.d (.int i)] Post := fun σ H ρ vs Q hl S q => by
  obtain ⟨v, rfl, S⟩ := S.arg1 hl
  obtain ⟨F, g, S2, h⟩ := S.top1
  have h : v = .int i := DV.int_ (B := c.B) (F := F) h
  subst h
  exact ⟨i, rfl, q _ _ δ _ k (St.flat ⟨F, g, S2⟩ (t := .int (if i < 0 then -i else i)) rfl)⟩
def rTwo (f : Int → Int → Int) : List V → Hp → VK → Prop := fun xs H Q => ∃ i j, xs = [.int i, .int j] ∧ Q (.int (f i j)) H
theorem oa_two {f : Int → Int → Int} {i j : Int} (k : Post δ (.d (.int (f i j)))) : OPA c (rTwo f) δ [.d (.int i), .d (.int j)] Post := fun σ H ρ vs Q hl S q => by
  obtain ⟨v, v', e, S2⟩ := S.arg2 hl
  obtain ⟨e1, e2, S3⟩ := S2.ints
  exact ⟨i, j, by rw [e, e1, e2], q _ _ δ _ k (S3.flat (t := .int (f i j)) rfl)⟩
abbrev rMax2 : List V → Hp → VK → Prop := rTwo fun i j => if j > i then j else i
abbrev rMin2 : List V → Hp → VK → Prop := rTwo fun i j => if j < i then j else i
theorem call_len' {X : Cx} : CallR X (.builtin "len") (rLen X.K) := call_len
theorem call_int1' {X : Cx} : CallR X (.type "int") rInt1 := call_int1
theorem call_abs' {X : Cx} : CallR X (.builtin "abs") rAbs1 := call_abs
theorem call_max2' {X : Cx} (hc : X.calm = true) : CallR X (.builtin "max") rMax2 := call_max2 hc
theorem call_min2' {X : Cx} (hc : X.calm = true) : CallR X (.builtin "min") rMin2 := call_min2 hc
/-! ### xs[i] = e, xs.append(e), of an owned list -/
def SetAt (δ : List SV) (a : Addr) (i : Int) (t : T) (P : List SV → Prop) : Prop := ∃ (j : Nat) (ts : List T) (n : Nat), ixN ts.length i = some n ∧
    ((δ[j]? = some (SV.own a (.lst ts)) ∧ P (δ.set j (.own a (.lst (ts.set n t))))) ∨ (δ[j]? = some (SV.arg a (.lst ts)) ∧ P (δ.set j (.arg a (.lst (ts.set n t))))))
def AppAt (δ : List SV) (a : Addr) (t : T) (P : List SV → Prop) : Prop := ∃ (j : Nat) (ts : List T), ts.length < sizeLine ∧
    ((δ[j]? = some (SV.own a (.lst ts)) ∧ P (δ.set j (.own a (.lst (ts ++ [t]))))) ∨ (δ[j]? = some (SV.arg a (.lst ts)) ∧ P (δ.set j (.arg a (.lst (ts ++ [t]))))))
theorem setO {δ : List SV} {a : Addr} {i : Int} {t : T} {P : List SV → Prop} (j : Nat) {ts : List T} {n : Nat} (h : δ[j]? = some (SV.own a (.lst ts))) (hn : ixN ts.length i = some n) (k : P (δ.set j (.own a (.lst (ts.set n t))))) : SetAt δ a i t P := ⟨j, ts, n, hn, .inl ⟨h, k⟩⟩
theorem setA {δ : List SV} {a : Addr} {i : Int} {t : T} {P : List SV → Prop} (j : Nat) {ts : List T} {n : Nat} (h : δ[j]? = some (SV.arg a (.lst ts))) (hn : ixN ts.length i = some n) (k : P (δ.set j (.arg a (.lst (ts.set n t))))) : SetAt δ a i t P := ⟨j, ts, n, hn, .inr ⟨h, k⟩⟩
theorem appO {δ : List SV} {a : Addr} {t : T} {P : List SV → Prop} (j : Nat) {ts : List T} (h : δ[j]? = some (SV.own a (.lst ts))) (hz : ts.length < sizeLine) (k : P (δ.set j (.own a (.lst (ts ++ [t]))))) : AppAt δ a t P := ⟨j, ts, hz, .inl ⟨h, k⟩⟩
theorem appA {δ : List SV} {a : Addr} {t : T} {P : List SV → Prop} (j : Nat) {ts : List T} (h : δ[j]? = some (SV.arg a (.lst ts))) (hz : ts.length < sizeLine) (k : P (δ.set j (.arg a (.lst (ts ++ [t]))))) : AppAt δ a t P := ⟨j, ts, hz, .inr ⟨h, k⟩⟩
theorem es_setI {ta tb te : TE} {R : DEnds} (h : EV c te δ fun δ1 r => ∃ t, Pu r (.d t) ∧ EV c ta δ1 fun δ2 r2 => ∃ a, r2 = .ptr a ∧ EV c tb δ2 fun δ3 r3 => ∃ i : Int, r3 = .d (.int i) ∧ SetAt δ3 a i t R.nx) : ES c (tAsg te (gSub ta tb rSetL)) δ R := fun σ H ρ D S M =>
  h σ H ρ _ S fun v H1 δ1 r ⟨t, p, k⟩ S1 => k σ H1 _ _ (S1.put p) fun o H2 δ2 r2 ⟨a, e2, k2⟩ S2 => by
    subst e2
    refine k2 σ H2 _ _ S2.pushP fun iv H3 δ3 r3 ⟨i, e3, j, ts, n, hn, k3⟩ S3 => ?_
    subst e3
    obtain ⟨F, g, S3, hi⟩ := S3
    have hi : iv = .int i := DV.int_ (B := c.B) (F := F) hi
    subst hi
    have ho : o = .ref a := S3.last
    subst ho
    have hv : DV c.B F v t := S3.drop.last
    have S4 := S3.drop.drop
    rcases k3 with ⟨hj, k3⟩ | ⟨hj, k3⟩
    · obtain ⟨_, _, _, xs, hx, hd⟩ := S4.sl j _ hj
      exact ⟨a, xs, i, n, rfl, rfl, hx, by rw [hd.length]; exact hn, M.nx _ _ _ k3 ⟨F, g, S4.updO hj ⟨_, upd_same, hd.set n hv⟩⟩⟩
    · obtain ⟨_, _, _, xs, hx, hd⟩ := S4.sl j _ hj
      exact ⟨a, xs, i, n, rfl, rfl, hx, by rw [hd.length]; exact hn, M.nx _ _ _ k3 ⟨F, g, S4.updA hj ⟨_, upd_same, hd.set n hv⟩⟩⟩
theorem es_append {ta te : TE} {R : DEnds} (h : EV c ta δ fun δ1 r => ∃ a, r = .ptr a ∧ (∃ ts, Owns δ1 a (.lst ts)) ∧ EV c te δ1 fun δ2 r2 => ∃ t, Pu r2 (.d t) ∧ AppAt δ2 a t R.nx) : ES c (tDrop (tBM c.B.K "list" rAppend ta (tCons te tNil))) δ R := fun σ H ρ D S M =>
  h σ H ρ _ S fun v H1 δ1 r ⟨a, e, ⟨ts0, w⟩, k⟩ S1 => by
    subst e
    obtain ⟨F1, g1, S1, e⟩ := S1
    have e : v = .ref a := e
    subst e
    obtain ⟨xs0, hx0, _⟩ := S1.owned w
    refine ⟨.inl ⟨rfl, xs0, SqL.of hx0⟩, k σ H1 (ρ ++ [(.ref a, .ptr a)]) _ (St1.pushP (a := a) ⟨F1, g1, S1, rfl⟩) fun y H2 δ2 r2 ⟨t, p, j, ts, hz, k2⟩ S2 => ?_⟩
    obtain ⟨F, g, S3⟩ := S2.put p
    have hy : DV c.B F y t := S3.last
    have S4 := S3.drop.drop
    rcases k2 with ⟨hj, k2⟩ | ⟨hj, k2⟩
    · obtain ⟨_, _, _, xs, hx, hd⟩ := S4.sl j _ hj
      exact ⟨a, xs, y, rfl, rfl, hx, by rw [hd.length]; exact hz, M.nx _ _ _ k2 ⟨F, g, S4.updO hj ⟨_, upd_same, hd.snoc hy⟩⟩⟩
    · obtain ⟨_, _, _, xs, hx, hd⟩ := S4.sl j _ hj
      exact ⟨a, xs, y, rfl, rfl, hx, by rw [hd.length]; exact hz, M.nx _ _ _ k2 ⟨F, g, S4.updA hj ⟨_, upd_same, hd.snoc hy⟩⟩⟩
end
end DL

namespace DL
open PySem L2

/-! ### defs: what they promise -/
inductive RT where
  | d (t : T) | new (o : OW)
def ResOk (B : Bs) (F' H H' : Hp) (v : V) : RT → Prop
  | .d t => DV B F' v t
  | .new o => ∃ a, v = .ref a ∧ H a = none ∧ F' a = none ∧ OwAt B F' H' a o
/-- of data: all that stood stands -/
structure AfterP (B : Bs) (F H : Hp) (v : V) (H' : Hp) (r : RT) (F' : Hp) : Prop where
  ef : Ex F F'
  fh : Ex F' H'
  fn : ∀ a o, H a = some o → F' a = F a
  eh : Ex H H'
  res : ResOk B F' H H' v r
def spP (B : Bs) (S : List T → (RT → Prop) → Prop) : Sp := fun vs H Q _ => ∃ F ts, Ex F H ∧ DVs B F vs ts ∧ ∃ P : RT → Prop, S ts P ∧ ∀ r v H' F', P r → AfterP B F H v H' r F' → Q v H'
/-- of an owned list and data: that list may change -/
structure AfterM (B : Bs) (F H : Hp) (m : Addr) (v : V) (H' : Hp) (us : OW) (r : RT) (F' : Hp) : Prop where
  ef : Ex F F'
  fh : Ex F' H'
  fn : ∀ a o, H a = some o → F' a = F a
  eh : ∀ a o, a ≠ m → H a = some o → H' a = some o
  lst : OwAt B F' H' m us
  res : ResOk B F' H H' v r
def spM (B : Bs) (S : OW → List T → (OW → RT → Prop) → Prop) : Sp := fun vs H Q _ => ∃ F m ws us ts, vs = .ref m :: ws ∧ Ex F H ∧ F m = none ∧ OwAt B F H m us ∧ DVs B F ws ts ∧
  ∃ P : OW → RT → Prop, S us ts P ∧ ∀ us' r v H' F', P us' r → AfterM B F H m v H' us' r F' → Q v H'

def RTr (P : RT → Prop) : SV → Prop
  | .d t => P (.d t)
  | .own _ o => P (.new o)
  | _ => False
def nos (n : Nat) : List SV := List.replicate n SV.no
theorem start_get {N : List Str} {vs : List V} {i : Nat} {v : V} (h : vs[i]? = some v) : (start N vs)[i]? = some (some v) := by
  unfold L2.start
  have hl := (List.getElem?_eq_some_iff.mp h).1
  rw [List.getElem?_append_left (by simpa using hl), List.getElem?_map, h]; rfl
theorem start_len {N : List Str} {vs : List V} (h : vs.length ≤ N.length) : (start N vs).length = N.length := by
  unfold L2.start; rw [List.length_append, List.length_map, List.length_replicate]; omega
section
variable {B : Bs} {F H : Hp} {N : List Str} {Q : VK} {t : TS}
/-- from a promise of data to the body's judgement -/
theorem run_P {vs : List V} {ts : List T} {P : RT → Prop} {n : Nat} (fh : Ex F H) (hd : DVs B F vs ts) (hN : N.length = ts.length + n) (q : ∀ r v H' F', P r → AfterP B F H v H' r F' → Q v H')
    (h : ES ⟨B, F, H, none⟩ t (ts.map .d ++ nos n) { rt := fun _ r => RTr P r, nx := fun _ => P (.d .non) }) : t { nx := fun _ H' => Q .non H', rt := Q } (start N vs) H := by
  have hvl := hd.length
  have S0 : StF ⟨B, F, H, none⟩ F (fun _ => none) (start N vs) H (ts.map .d ++ nos n) [] := by
    refine ⟨fh, Ex.refl F, fun _ _ _ => rfl, fun a o e _ => e, ?_, fun i s e => ?_, fun n p e => by simp at e, fun a l e => (by cases e), fun a e => (by cases e)⟩
    · rw [start_len (by omega)]; unfold nos; rw [List.length_append, List.length_map, List.length_replicate, hN]
    · by_cases hi : i < ts.length
      · rw [List.getElem?_append_left (by simpa using hi), List.getElem?_map] at e
        obtain ⟨t, ht⟩ : ∃ t, ts[i]? = some t := ⟨ts[i], by simp [hi]⟩
        rw [ht] at e; cases e
        obtain ⟨v, e1, hv⟩ := hd.get ht
        exact ⟨v, by rw [start_get e1]; rfl, hv⟩
      · rw [List.getElem?_append_right (by simpa using hi)] at e
        have := List.mem_of_getElem? e
        have : s = .no := List.eq_of_mem_replicate this
        subst this; trivial
  refine h _ _ [] _ ⟨F, _, S0⟩ ⟨fun σ H' δ k S => ?_, fun v σ H' δ r k S => ?_, fun _ _ _ k _ => k.elim, fun _ _ _ k _ => k.elim⟩
  · obtain ⟨F', g, S⟩ := S
    exact q _ _ _ F' k ⟨S.f0, S.fh, S.fn, fun a o e => S.h0 a o e (by intro z; cases z), by simp only [ResOk, DV]⟩
  · obtain ⟨F', g, S, top⟩ := S
    have eh : Ex H H' := fun a o e => S.h0 a o e (by intro z; cases z)
    cases r with
    | d t => exact q (.d t) v H' F' k ⟨S.f0, S.fh, S.fn, eh, top⟩
    | own a o =>
      obtain ⟨rfl, h1, h2, h3⟩ := top
      exact q (.new o) _ H' F' k ⟨S.f0, S.fh, S.fn, eh, a, rfl, h2, (S.gn a _ h1).1, h3⟩
    | no => exact k.elim
    | arg a o => exact k.elim
    | ptr a => exact k.elim
    | lv _ _ => exact k.elim
    | tv _ _ => exact k.elim
theorem run_M {ws : List V} {us : OW} {ts : List T} {m : Addr} {P : OW → RT → Prop} {n : Nat} (fh : Ex F H) (fm : F m = none) (hm : OwAt B F H m us) (hd : DVs B F ws ts) (hN : N.length = ts.length + n + 1) (q : ∀ us' r v H' F', P us' r → AfterM B F H m v H' us' r F' → Q v H')
    (h : ES ⟨B, F, H, some m⟩ t (.arg m us :: (ts.map .d ++ nos n)) { rt := fun δ r => ∃ us', δ[0]? = some (.arg m us') ∧ RTr (P us') r, nx := fun δ => ∃ us', δ[0]? = some (.arg m us') ∧ P us' (.d .non) }) : t { nx := fun _ H' => Q .non H', rt := Q } (start N (.ref m :: ws)) H := by
  have hvl := hd.length
  obtain ⟨u, hu⟩ := hm.some
  have S0 : StF ⟨B, F, H, some m⟩ F (fun b => if b = m then some (.slot 0) else none) (start N (.ref m :: ws)) H (.arg m us :: (ts.map .d ++ nos n)) [] := by
    refine ⟨fh, Ex.refl F, fun _ _ _ => rfl, fun a o e _ => e, ?_, fun i s e => ?_, fun n p e => by simp at e, fun a l e => ?_, fun a e => ?_⟩
    · rw [start_len (by rw [List.length_cons]; omega)]; unfold nos; rw [List.length_cons, List.length_append, List.length_map, List.length_replicate, hN]
    · cases i with
      | zero =>
        simp at e; subst e
        exact ⟨by rw [start_get (vs := .ref m :: ws) (i := 0) rfl]; rfl, if_pos rfl, rfl, hm⟩
      | succ i =>
        rw [List.getElem?_cons_succ] at e
        by_cases hi : i < ts.length
        · rw [List.getElem?_append_left (by simpa using hi), List.getElem?_map] at e
          obtain ⟨t, ht⟩ : ∃ t, ts[i]? = some t := ⟨ts[i], by simp [hi]⟩
          rw [ht] at e; cases e
          obtain ⟨v, e1, hv⟩ := hd.get ht
          exact ⟨v, by rw [start_get (vs := .ref m :: ws) (i := i + 1) (by rw [List.getElem?_cons_succ]; exact e1)]; rfl, hv⟩
        · rw [List.getElem?_append_right (by simpa using hi)] at e
          have := List.mem_of_getElem? e
          have : s = .no := List.eq_of_mem_replicate this
          subst this; trivial
    · by_cases z : a = m
      · subst z; exact ⟨fm, u, hu⟩
      · rw [if_neg z] at e; cases e
    · have e : some m = some a := e
      cases e; exact ⟨fm, ⟨u, hu⟩, u, hu⟩
  refine h _ _ [] _ ⟨F, _, S0⟩ ⟨fun σ H' δ ⟨us', hδ, k⟩ S => ?_, fun v σ H' δ r ⟨us', hδ, k⟩ S => ?_, fun _ _ _ k _ => k.elim, fun _ _ _ k _ => k.elim⟩
  · obtain ⟨F', g, S⟩ := S
    obtain ⟨_, _, _, hl⟩ := S.sl 0 _ hδ
    exact q us' _ _ _ F' k ⟨S.f0, S.fh, S.fn, fun a o n e => S.h0 a o e (fun z => n (by cases z; rfl)), hl, by simp only [ResOk, DV]⟩
  · obtain ⟨F', g, S, top⟩ := S
    obtain ⟨_, _, _, hl⟩ := S.sl 0 _ hδ
    have eh : ∀ a o, a ≠ m → H a = some o → H' a = some o := fun a o n e => S.h0 a o e (fun z => n (by cases z; rfl))
    cases r with
    | d t => exact q us' (.d t) v H' F' k ⟨S.f0, S.fh, S.fn, eh, hl, top⟩
    | own a o =>
      obtain ⟨rfl, h1, h2, h3⟩ := top
      exact q us' (.new o) _ H' F' k ⟨S.f0, S.fh, S.fn, eh, hl, a, rfl, h2, (S.gn a _ h1).1, h3⟩
    | no => exact k.elim
    | arg a o => exact k.elim
    | ptr a => exact k.elim
    | lv _ _ => exact k.elim
    | tv _ _ => exact k.elim
end

/-! ### calls -/
def RTp (Post : List SV → SV → Prop) (δ : List SV) : RT → Prop
  | .d t => Post δ (.d t)
  | .new o => ∀ a, Post δ (.own a o)
section
variable {c : Cn} {δ : List SV} {Post : List SV → SV → Prop} {ta : TA} {E : XK}
theorem StF.res {F g σ H ρ v H'} {r : RT} (S : StF c F g σ H' δ ρ) (hH : ∀ a, H a = none → g a = none) (h0 : ∀ a o, c.H0 a = some o → H a ≠ none) (h : ResOk c.B F H H' v r) (k : RTp Post δ r) : ∃ s, Post δ s ∧ St1 c σ H' δ ρ v s := by
  cases r with
  | d t => exact ⟨.d t, k, F, g, S, h⟩
  | new o =>
    obtain ⟨a, rfl, ha, hF, ho⟩ := h
    have hk : ∀ b l, g b = some l → (if b = a then some Loc.top else g b) = some l := fun b l h => by
      have : b ≠ a := fun q => by rw [q, hH a ha] at h; cases h
      rw [if_neg this]; exact h
    have hc : c.H0 a = none := by
      cases z : c.H0 a with
      | none => rfl
      | some o => exact absurd ha (h0 a o z)
    refine ⟨.own a o, k a, F, fun b => if b = a then some .top else g b, ⟨S.fh, S.f0, S.fn, S.h0, S.len, fun i s e => (S.sl i s e).mono (Ex.refl F) (fun b h => hk b _ h) (fun _ _ => rfl), fun n q e => (S.tm n q e).mono (Ex.refl F) (fun b h => hk b _ h) (fun _ _ => rfl), fun b l e => ?_, S.an⟩, rfl, if_pos rfl, hc, ho⟩
    by_cases q : b = a
    · subst q; exact ⟨hF, ho.some⟩
    · rw [if_neg q] at e; exact S.gn b l e
theorem StF.h0n {F g σ H ρ} (S : StF c F g σ H δ ρ) : ∀ a o, c.H0 a = some o → H a ≠ none := fun a o e z => by
  by_cases hA : c.A = some a
  · obtain ⟨_, ⟨u, hu⟩, _⟩ := S.an a hA
    rw [z] at hu; cases hu
  · rw [S.h0 a o e hA] at z; cases z
theorem StF.gnone {F g σ H ρ} (S : StF c F g σ H δ ρ) : ∀ a, H a = none → g a = none := fun a z => by
  cases q : g a with
  | none => rfl
  | some l =>
    obtain ⟨_, u, hu⟩ := S.gn a l q
    rw [z] at hu; cases hu
/-- a call of a def of data -/
theorem ev_callP {S : List T → (RT → Prop) → Prop} (h : EVA c ta δ fun δ1 rs => ∃ ts, rs = ts.map .d ∧ ∃ P : RT → Prop, S ts P ∧ ∀ r, P r → RTp Post δ1 r) : EV c (tCall (spP c.B S) [] E ta) δ Post := fun σ H ρ Q S0 q =>
  h σ H ρ _ S0 fun vs H1 δ1 rs ⟨ts, e, P, hS, k⟩ hl S1 => by
    subst e
    obtain ⟨F, g, S2, hd⟩ := S1.args hl
    refine ⟨F, ts, S2.fh, by rw [List.append_nil]; exact hd, P, hS, fun r v H' F' hp A => ?_⟩
    obtain ⟨s, k2, S3⟩ := (S2.grow A.eh A.ef A.fh A.fn).res S2.gnone S2.h0n A.res (k r hp)
    exact q v H' δ1 s k2 S3
/-- a call of a def of an owned list and data -/
theorem ev_callM {S : OW → List T → (OW → RT → Prop) → Prop} (h : EVA c ta δ fun δ1 rs => ∃ a ts, rs = .ptr a :: ts.map .d ∧ ∃ (j : Nat) (us : OW) (P : OW → RT → Prop), S us ts P ∧
    ((δ1[j]? = some (SV.own a us) ∧ ∀ us' r, P us' r → RTp Post (δ1.set j (.own a us')) r) ∨ (δ1[j]? = some (SV.arg a us) ∧ ∀ us' r, P us' r → RTp Post (δ1.set j (.arg a us')) r))) : EV c (tCall (spM c.B S) [] E ta) δ Post := fun σ H ρ Q S0 q =>
  h σ H ρ _ S0 fun vs H1 δ1 rs ⟨a, ts, e, j, us, P, hS, k⟩ hl S1 => by
    subst e
    match vs, hl, S1 with
    | v0 :: ws, hl, S1 =>
    have S1 : St c σ H1 δ1 (ρ ++ (v0, .ptr a) :: ws.zip (ts.map SV.d)) := S1
    rw [show ρ ++ (v0, SV.ptr a) :: ws.zip (ts.map SV.d) = (ρ ++ [(v0, .ptr a)]) ++ ws.zip (ts.map SV.d) by simp] at S1
    obtain ⟨F, g, S2, hd⟩ := S1.args (by simpa using hl)
    have e : v0 = .ref a := S2.last
    subst e
    have S3 := S2.drop
    have own : g a = g a ∧ F a = none ∧ OwAt c.B F H1 a us := by
      rcases k with ⟨hj, _⟩ | ⟨hj, _⟩
      · obtain ⟨_, h1, h2, h3⟩ := S3.sl j _ hj; exact ⟨rfl, (S3.gn a _ h1).1, h3⟩
      · obtain ⟨_, h1, h2, h3⟩ := S3.sl j _ hj; exact ⟨rfl, (S3.gn a _ h1).1, h3⟩
    obtain ⟨_, fa, ho⟩ := own
    obtain ⟨u0, hx⟩ := ho.some
    refine ⟨F, a, ws, us, ts, by rw [List.append_nil], S3.fh, fa, ho, hd, P, hS, fun us' r v H' F' hp A => ?_⟩
    -- the heap with the list as it was
    obtain ⟨u1, hy⟩ := A.lst.some
    have fa' : F' a = none := by rw [A.fn a _ hx]; exact fa
    let H2 : Hp := fun b => if b = a then H1 a else H' b
    have e2a : H2 a = H1 a := if_pos rfl
    have e2n : ∀ b, b ≠ a → H2 b = H' b := fun b n => if_neg n
    have eh : Ex H1 H2 := fun b o e => by
      by_cases z : b = a
      · rw [z] at e ⊢; rw [e2a]; exact e
      · rw [e2n b z]; exact A.eh b o z e
    have fh : Ex F' H2 := fun b o e => by
      by_cases z : b = a
      · rw [z, fa'] at e; cases e
      · rw [e2n b z]; exact A.fh b o e
    have S4 := S3.grow eh A.ef fh A.fn
    have eU : upd H2 a u1 = H' := by
      funext b
      by_cases z : b = a
      · rw [z, upd_same, hy]
      · rw [upd_ne z, e2n b z]
    have res : ResOk c.B F' H1 H' v r := A.res
    rcases k with ⟨hj, k⟩ | ⟨hj, k⟩
    · have S5 := S4.updO (o' := us') (u := u1) hj (A.lst.mono (Ex.refl F') (by rw [eU]))
      rw [eU] at S5
      obtain ⟨s, k2, S6⟩ := S5.res S3.gnone S3.h0n res (k us' r hp)
      exact q v H' _ s k2 S6
    · have S5 := S4.updA (o' := us') (u := u1) hj (A.lst.mono (Ex.refl F') (by rw [eU]))
      rw [eU] at S5
      obtain ⟨s, k2, S6⟩ := S5.res S3.gnone S3.h0n res (k us' r hp)
      exact q v H' _ s k2 S6
end
end DL

namespace DL
open PySem L2
/-! ### universal operators -/
def rLtS : R2 := fun x y H Q => ∃ i j, x = .str i ∧ y = .str j ∧ Q (.bl (decide (i.cps.toList < j.cps.toList))) H
def rLeS : R2 := fun x y H Q => ∃ i j, x = .str i ∧ y = .str j ∧ Q (.bl (!decide (j.cps.toList < i.cps.toList))) H
def rGtS : R2 := fun x y H Q => ∃ i j, x = .str i ∧ y = .str j ∧ Q (.bl (decide (j.cps.toList < i.cps.toList))) H
def rGeS : R2 := fun x y H Q => ∃ i j, x = .str i ∧ y = .str j ∧ Q (.bl (!decide (i.cps.toList < j.cps.toList))) H
def uLt : R2 := fun x y H Q => rI0 (fun i j => .bl (decide (i < j))) x y H Q ∨ rLtS x y H Q
def uLe : R2 := fun x y H Q => rI0 (fun i j => .bl (decide (i ≤ j))) x y H Q ∨ rLeS x y H Q
def uGt : R2 := fun x y H Q => rI0 (fun i j => .bl (decide (j < i))) x y H Q ∨ rGtS x y H Q
def uGe : R2 := fun x y H Q => rI0 (fun i j => .bl (decide (j ≤ i))) x y H Q ∨ rGeS x y H Q
section
variable {X : Cx}
theorem op_uLt : OpR X (compareOp .Lt) uLt := op_lt.or op_lt_str
theorem op_uLe : OpR X (compareOp .LtE) uLe := op_le.or op_le_str
theorem op_uGt : OpR X (compareOp .Gt) uGt := op_gt.or op_gt_str
theorem op_uGe : OpR X (compareOp .GtE) uGe := op_ge.or op_ge_str
end
def rMulS : R2 := fun x y H Q => ∃ z n, x = .str z ∧ y = .int n ∧ MulOk z n ∧ Q (.str (Txt.mul z n)) H
theorem op_mulS {X : Cx} : OpR X (binaryOp .Mult) rMulS := by
  intro pins s σ H x y v u Q I rx ry h
  obtain ⟨z, n, rfl, rfl, hc, q⟩ := h
  obtain ⟨t, rfl⟩ := rx
  obtain ⟨t', rfl⟩ := ry
  exact PySem.SB.mul hc fun t' k => ⟨.str _, H, I.tok k, ⟨t', rfl⟩, q⟩
def uMul : R2 := fun x y H Q => rI CMul (fun i j => .int (i * j)) x y H Q ∨ rMulS x y H Q
theorem op_uMul {X : Cx} : OpR X (binaryOp .Mult) uMul := op_mul.or op_mulS
theorem ix_u {X : Cx} (_ : X.A.units + 1 < cLine) : IxR X (rIx X.K) := ix_seq
section
variable {c : Cn} {δ : List SV} {Post : List SV → SV → Prop} {i j : Int} {z y : Str}
theorem o2_ltI (k : Post δ (.d (.bl (decide (i < j))))) : OP2 c uLt δ (.d (.int i)) (.d (.int j)) Post := fun σ H ρ x y Q S q => .inl (o2_I0 (f := fun i j => .bl (decide (i < j))) (t := .bl (decide (i < j))) rfl k σ H ρ x y Q S q)
theorem o2_leI (k : Post δ (.d (.bl (decide (i ≤ j))))) : OP2 c uLe δ (.d (.int i)) (.d (.int j)) Post := fun σ H ρ x y Q S q => .inl (o2_I0 (f := fun i j => .bl (decide (i ≤ j))) (t := .bl (decide (i ≤ j))) rfl k σ H ρ x y Q S q)
theorem o2_gtI (k : Post δ (.d (.bl (decide (j < i))))) : OP2 c uGt δ (.d (.int i)) (.d (.int j)) Post := fun σ H ρ x y Q S q => .inl (o2_I0 (f := fun i j => .bl (decide (j < i))) (t := .bl (decide (j < i))) rfl k σ H ρ x y Q S q)
theorem o2_geI (k : Post δ (.d (.bl (decide (j ≤ i))))) : OP2 c uGe δ (.d (.int i)) (.d (.int j)) Post := fun σ H ρ x y Q S q => .inl (o2_I0 (f := fun i j => .bl (decide (j ≤ i))) (t := .bl (decide (j ≤ i))) rfl k σ H ρ x y Q S q)
theorem o2_ltS (k : Post δ (.d (.bl (decide (z.cps.toList < y.cps.toList))))) : OP2 c uLt δ (.d (.str z)) (.d (.str y)) Post := fun σ H ρ x w Q S q => by
  obtain ⟨e1, e2, S2⟩ := S.strs
  exact .inr ⟨z, y, e1, e2, q _ H δ _ k (S2.flat (t := .bl (decide (z.cps.toList < y.cps.toList))) rfl)⟩
theorem o2_leS (k : Post δ (.d (.bl (!decide (y.cps.toList < z.cps.toList))))) : OP2 c uLe δ (.d (.str z)) (.d (.str y)) Post := fun σ H ρ x w Q S q => by
  obtain ⟨e1, e2, S2⟩ := S.strs
  exact .inr ⟨z, y, e1, e2, q _ H δ _ k (S2.flat (t := .bl (!decide (y.cps.toList < z.cps.toList))) rfl)⟩
theorem o2_gtS (k : Post δ (.d (.bl (decide (y.cps.toList < z.cps.toList))))) : OP2 c uGt δ (.d (.str z)) (.d (.str y)) Post := fun σ H ρ x w Q S q => by
  obtain ⟨e1, e2, S2⟩ := S.strs
  exact .inr ⟨z, y, e1, e2, q _ H δ _ k (S2.flat (t := .bl (decide (y.cps.toList < z.cps.toList))) rfl)⟩
theorem o2_mulI (hc : CMul i j) (k : Post δ (.d (.int (i * j)))) : OP2 c uMul δ (.d (.int i)) (.d (.int j)) Post := fun σ H ρ x y Q S q => .inl (o2_I (f := fun i j => .int (i * j)) (t := .int (i * j)) hc rfl k σ H ρ x y Q S q)
theorem o2_mulS (hc : MulOk z i) (k : Post δ (.d (.str (Txt.mul z i)))) : OP2 c uMul δ (.d (.str z)) (.d (.int i)) Post := fun σ H ρ x y Q S q => by
  obtain ⟨F, g, S2, h1, h2⟩ := S.top2
  exact .inr ⟨z, i, DV.str_ (B := c.B) (F := F) h1, DV.int_ (B := c.B) (F := F) h2, hc, q _ H δ _ k (St.flat ⟨F, g, S2⟩ (t := .str (Txt.mul z i)) rfl)⟩
theorem o2_sub (k : Post δ (.d (.int (i - j)))) : OP2 c (rI0 fun i j => .int (i - j)) δ (.d (.int i)) (.d (.int j)) Post := o2_I0 (t := .int (i - j)) rfl k
theorem o2_mod (hc : 0 < j) (k : Post δ (.d (.int (i % j)))) : OP2 c (rI (fun _ j => 0 < j) fun i j => .int (i % j)) δ (.d (.int i)) (.d (.int j)) Post := o2_I (t := .int (i % j)) hc rfl k
theorem o2_fdiv (hc : CDivW i j) (k : Post δ (.d (.int (i / j)))) : OP2 c (rI CDivW fun i j => .int (i / j)) δ (.d (.int i)) (.d (.int j)) Post := o2_I (t := .int (i / j)) hc rfl k
theorem o2_pow (hc : CPow i j) (k : Post δ (.d (.int (i ^ j.toNat)))) : OP2 c (rI CPow fun i j => .int (i ^ j.toNat)) δ (.d (.int i)) (.d (.int j)) Post := o2_I (t := .int (i ^ j.toNat)) hc rfl k
end
/-- a def that may be called -/
structure Cal (P : Program) (w : World) (K : PySem.W.Frag) (mg : Str → Option Value) (base : Heap) (CX : CXT) (x : Str) (k : Nat) (ps : List Str) (sp : Sp) where
  f : Addr
  fd : FuncData
  ok : FnOk P w K mg base CX k f fd ps sp
  mg : mg x = some (.ref f)
  kp : PySem.W.keepIn K (.ref f) = true
  bd : Binds K fd ps []
end DL

namespace DL
open PySem L2

/-! ### dicts whose keys are tuples -/
section
variable {X : Cx} {pins : List (Addr × Obj)} {σ : L2.St} {F H : Hp} {s : Shared}
abbrev Bx (X : Cx) : Bs := ⟨X.prog, X.w, X.K⟩
mutual
theorem DV.key (I : Inv X pins σ H s) (e : Ex F H) : ∀ (t : T) (v : V) (u : Value) (k : NestedKey), DV (Bx X) F v t → t.nk = some k → RelV v u → NestedIs s.heap k u
  | .non, _, _, _, h, hk, r => by simp only [DV] at h; subst h; simp only [T.nk] at hk; cases hk; cases r; exact .none
  | .bl b, _, _, _, h, hk, r => by simp only [DV] at h; subst h; simp only [T.nk] at hk; cases hk; cases r; exact .bool rfl
  | .int i, _, _, _, h, hk, r => by simp only [DV] at h; subst h; simp only [T.nk] at hk; cases hk; obtain ⟨t, rfl⟩ := r; exact .int i t
  | .str x, _, _, _, h, hk, r => by simp only [DV] at h; subst h; simp only [T.nk] at hk; cases hk; obtain ⟨t, rfl⟩ := r; exact .text x t
  | .tup ts, _, _, _, h, hk, r => by
    simp only [DV] at h
    obtain ⟨a, xs, rfl, h1, h2⟩ := h
    cases r
    simp only [T.nk, Option.map_eq_some_iff] at hk
    obtain ⟨ks, e1, rfl⟩ := hk
    obtain ⟨its, rv, ⟨o, ho, hc, n, hd⟩, _⟩ := I.tuple (e.sqt h1)
    exact .tup ho hc hd (by simpa using DVs.key I e ts xs its ks h2 e1 rv)
  | .lst _, _, _, _, _, hk, _ => by simp only [T.nk] at hk; cases hk
  | .rl _, _, _, _, _, hk, _ => by simp only [T.nk] at hk; cases hk
  | .raw _, _, _, _, _, hk, _ => by simp only [T.nk] at hk; cases hk
  | .obj _ _ _, _, _, _, _, hk, _ => by simp only [T.nk] at hk; cases hk
  | .dN _ _, _, _, _, _, hk, _ => by simp only [T.nk] at hk; cases hk
  | .dK _ _, _, _, _, _, hk, _ => by simp only [T.nk] at hk; cases hk
theorem DVs.key (I : Inv X pins σ H s) (e : Ex F H) : ∀ (ts : List T) (vs : List V) (us : List Value) (ks : List NestedKey), DVs (Bx X) F vs ts → T.nks ts = some ks → Vals vs us → NestedAll s.heap ks us
  | [], _, _, _, h, hk, r => by simp only [DVs] at h; subst h; simp only [T.nks] at hk; cases hk; cases r; exact .nil
  | t :: ts, _, _, _, h, hk, r => by
    simp only [DVs] at h
    obtain ⟨v, vr, rfl, h1, h2⟩ := h
    simp only [T.nks] at hk
    split at hk
    · rename_i k ks e1 e2
      cases hk
      cases r with
      | cons r1 r2 => exact .cons (DV.key I e t v _ k h1 e1 r1) (DVs.key I e ts vr _ ks h2 e2 r2)
    · cases hk
end
end
abbrev EN := NestedKey × Addr × V
def lookN (es : List EN) (k : NestedKey) : Option V := (es.find? fun e => decide (e.1 = k)).map (·.2.2)
def putN (es : List EN) (k : NestedKey) (b : Addr) (v : V) : List EN := if (lookN es k).isSome then es.map (fun e => if e.1 = k then (e.1, e.2.1, v) else e) else es ++ [(k, b, v)]
structure DNat (B : Bs) (H : Hp) (a : Addr) (es : List EN) : Prop where
  at_ : H a = some (hoN B a es)
  ks : ∃ F ts, Ex F H ∧ T.nks ts = some (es.map (·.1)) ∧ DVs B F (es.map fun e => .ref e.2.1) ts
def KeyAt (B : Bs) (H : Hp) (y : V) (k : NestedKey) : Prop := ∃ F t, Ex F H ∧ DV B F y t ∧ t.nk = some k ∧ k.depth ≤ 8
abbrev PN : List EN → List (NestedKey × Addr × Value) → Prop := Paired fun (p : EN) (q : NestedKey × Addr × Value) => p.1 = q.1 ∧ p.2.1 = q.2.1 ∧ RelV p.2.2 q.2.2
theorem PN.look {es : List EN} {xs : List (NestedKey × Addr × Value)} (r : PN es xs) (k : NestedKey) : RelO (lookN es k) ((atKey xs k).map (·.2)) := by
  induction r with
  | nil => exact True.intro
  | @cons p q ps qs h t ih =>
    obtain ⟨h1, _, h2⟩ := h
    by_cases e : p.1 = k
    · have e' : q.1 = k := h1.symm.trans e
      have b : atKey (q :: qs) k = some q.2 := by simp [atKey, List.find?_cons, e']
      have c : lookN (p :: ps) k = some p.2.2 := by simp [lookN, List.find?_cons, e]
      rw [c, b]; exact h2
    · have e' : ¬ q.1 = k := fun z => e (h1.trans z)
      have b : atKey (q :: qs) k = atKey qs k := by simp [atKey, List.find?_cons, e']
      have c : lookN (p :: ps) k = lookN ps k := by simp [lookN, List.find?_cons, e]
      rw [c, b]; exact ih
theorem PN.put {es : List EN} {xs : List (NestedKey × Addr × Value)} (r : PN es xs) (k : NestedKey) (b : Addr) {v : V} {u : Value} (rv : RelV v u) : PN (putN es k b v) (storedH xs k b u) := by
  have e : (lookN es k).isSome = (atKey xs k).isSome := by rw [(r.look k).isSome_eq, Option.isSome_map]
  unfold putN storedH
  rw [e]
  by_cases q : (atKey xs k).isSome = true
  · rw [if_pos q, if_pos q]
    clear e q
    induction r with
    | nil => exact .nil
    | @cons p q ps qs h t ih =>
      rw [List.map_cons, List.map_cons]
      refine .cons ?_ ih
      obtain ⟨h1, h2, h3⟩ := h
      unfold putAt
      by_cases z : p.1 = k
      · rw [if_pos z, if_pos (h1.symm.trans z)]; exact ⟨h1, h2, rv⟩
      · rw [if_neg z, if_neg (fun y => z (h1.trans y))]; exact ⟨h1, h2, h3⟩
  · rw [if_neg q, if_neg q]; exact Paired.snoc r ⟨rfl, rfl, rv⟩
theorem length_putN (es : List EN) (k : NestedKey) (b : Addr) (v : V) : (putN es k b v).length ≤ es.length + 1 := by
  unfold putN
  split
  · rw [List.length_map]; omega
  · rw [List.length_append]; simp
theorem PN.keys {h : Heap} {kd : NestedKey → Addr → Prop} : ∀ {es : List EN} {xs : List (NestedKey × Addr × Value)}, PN es xs → (∀ e ∈ es, kd e.1 e.2.1) → ∀ x ∈ xs, kd x.1 x.2.1
  | _, _, .nil, _, x, hx => nomatch hx
  | _, _, .cons h t, hk, x, hx => by
    rcases List.mem_cons.mp hx with e | hx
    · subst e; rw [← h.1, ← h.2.1]; exact hk _ List.mem_cons_self
    · exact PN.keys (h := default) t (fun e he => hk e (List.mem_cons_of_mem _ he)) x hx
section
variable {X : Cx} {pins : List (Addr × Obj)} {σ : L2.St} {H : Hp} {s : Shared}
theorem keys_all {F : Hp} {h : Heap} : ∀ {es : List EN} {ts : List T} , T.nks ts = some (es.map (·.1)) → DVs (Bx X) F (es.map fun e => V.ref e.2.1) ts → ∀ e ∈ es, ∃ t, DV (Bx X) F (.ref e.2.1) t ∧ t.nk = some e.1
  | [], _, _, _, e, he => nomatch he
  | e0 :: es, [], h1, h2, e, he => by rw [List.map_cons] at h2; simp only [DVs] at h2; cases h2
  | e0 :: es, t :: ts, h1, h2, e, he => by
    rw [List.map_cons] at h2
    obtain ⟨q1, q2⟩ := h2.uncons
    rw [List.map_cons] at h1
    simp only [T.nks] at h1
    split at h1
    · rename_i k ks e1 e2
      injection h1 with h1
      injection h1 with h1 h3
      rcases List.mem_cons.mp he with z | he
      · subst z; exact ⟨t, q1, by rw [e1, h1]⟩
      · exact keys_all (h := default) (by rw [e2, h3]) q2 e he
    · cases h1
theorem dn_of {a : Addr} {es : List EN} (I : Inv X pins σ H s) (d : DNat (Bx X) H a es) : es.length ≤ sizeLine ∧ (a == sysModules) = false ∧ (∀ e ∈ es, e.1.depth ≤ 8) ∧ ∃ xs, PN es xs ∧ s.heap.DictOfH (nestedKind X.prog X.w) a xs := by
  obtain ⟨⟨z, y, dp, xs, r, o, es', ep, h1, h2, h3, h4, h5⟩, _, _⟩ := (show ObjOk X.prog X.w H s.heap a (hoN (Bx X) a es) from I.hok a _ d.at_)
  obtain ⟨F, ts, e, n, dv⟩ := d.ks
  refine ⟨z, y, dp, xs, r, o, es', ep, h1, h2, h3, h4, PN.keys (h := default) (kd := fun k b => (nestedKind X.prog X.w).is s.heap k b) r (fun en he => ?_), h5⟩
  obtain ⟨t, q1, q2⟩ := keys_all (h := default) n dv en he
  exact ⟨DV.key I e t _ _ _ q1 q2 rfl, dp en he⟩
theorem key_at {y : V} {u : Value} {k : NestedKey} (I : Inv X pins σ H s) (q : KeyAt (Bx X) H y k) (r : RelV y u) : NestedIs s.heap k u ∧ k.depth ≤ 8 := by
  obtain ⟨F, t, e, h1, h2, h3⟩ := q
  exact ⟨DV.key I e t y u k h1 h2 r, h3⟩
def rNGet (B : Bs) : R2 := fun x y H Q => ∃ a es k b v, x = .ref a ∧ y = .ref b ∧ DNat B H a es ∧ KeyAt B H y k ∧ lookN es k = some v ∧ Q v H
theorem room8 {A : Around} (hu : A.units + 64 < cLine) : (nestedKind X.prog X.w).room A.in1 := by
  show A.in1.units + 8 < cLine
  have : A.in1.units = A.units + 1 := rfl
  omega
theorem ix_N (hu : X.A.units + 64 < cLine) : IxR X (rNGet (Bx X)) := by
  intro value slice pins s σ H x y v u Q I rx ry h hs
  obtain ⟨a, es, k, b, w, rfl, rfl, d, kk, e, q⟩ := h
  cases rx
  obtain ⟨k1, k2⟩ := key_at I kk ry
  cases ry
  obtain ⟨z, hd, dp, xs, r, dd⟩ := dn_of I d
  obtain ⟨w', hw, rw'⟩ := RelO.some_of (v := w) (o := (atKey xs k).map (·.2)) (by rw [← e]; exact r.look k)
  obtain ⟨p, hp, hp2⟩ := Option.map_eq_some_iff.mp hw
  refine PyProof.Rows.subscriptTail_builtinR (x := w') dd.typeIs PySem.F.slot_dict_getitem.lookup (Q := EP X pins σ Q) ?_ hs
  refine wpAny_getItem_heap (room8 hu) ⟨k1, k2⟩ dd hp ?_
  exact ⟨hp2, w, H, I.tok _, by rw [hp2]; exact rw', q⟩
/-- y in d, y not in d -/
def rNIn (B : Bs) (neg : Bool) : R2 := fun y x H Q => ∃ a es k b, x = .ref a ∧ y = .ref b ∧ DNat B H a es ∧ KeyAt B H y k ∧ Q (.bl (if neg then !(lookN es k).isSome else (lookN es k).isSome)) H
theorem op_NIn (hu : X.A.units + 64 < cLine) : OpR X (compareOp .In) (rNIn (Bx X) false) := by
  intro pins s σ H y x u v Q I ry rx h
  obtain ⟨a, es, k, b, rfl, rfl, d, kk, q⟩ := h
  cases rx
  obtain ⟨k1, k2⟩ := key_at I kk ry
  cases ry
  obtain ⟨z, hd, dp, xs, r, dd⟩ := dn_of I d
  refine wpAny_in_heap (room8 hu) ⟨k1, k2⟩ hd dd ?_
  have e := (r.look k).isSome_eq
  rw [Option.isSome_map] at e
  rw [← e]
  exact ⟨.bl _, H, I.tok _, rfl, q⟩
theorem op_NNotIn (hu : X.A.units + 64 < cLine) : OpR X (compareOp .NotIn) (rNIn (Bx X) true) := by
  intro pins s σ H y x u v Q I ry rx h
  obtain ⟨a, es, k, b, rfl, rfl, d, kk, q⟩ := h
  cases rx
  obtain ⟨k1, k2⟩ := key_at I kk ry
  cases ry
  obtain ⟨z, hd, dp, xs, r, dd⟩ := dn_of I d
  refine PyProof.Rows.wpAny_notIn_heap (room8 hu) ⟨k1, k2⟩ hd dd ?_
  have e := (r.look k).isSome_eq
  rw [Option.isSome_map] at e
  rw [← e]
  exact ⟨.bl _, H, I.tok _, rfl, q⟩
/-- d[y] = v -/
def rNSet (B : Bs) : TSet := fun x y v H Q => ∃ a es k b, x = .ref a ∧ y = .ref b ∧ DNat B H a es ∧ KeyAt B H y k ∧ es.length < sizeLine ∧ Q (upd H a (hoN B a (putN es k b v)))
theorem set_N (hu : X.A.units + 64 < cLine) : PSet X (rNSet (Bx X)) := by
  intro pins s σ H x y v ov iv uv Q I rx ry rv h
  obtain ⟨a, es, k, b, rfl, rfl, d, kk, hz, q⟩ := h
  cases rx
  obtain ⟨k1, k2⟩ := key_at I kk ry
  cases ry
  obtain ⟨z, hd, dp, xs, r, dd⟩ := dn_of I d
  have hl : xs.length ≤ sizeLine := by rw [← Paired.length r]; exact z
  refine wpAny_setItem_heap (hsz := hl) (room8 hu) ⟨k1, k2⟩ dd fun h' dd' hs => ?_
  obtain ⟨o, es', ep, g1, g2, g3, g4, _, g5⟩ := dd'
  have hlen := length_putN es k b v
  have dps : ∀ e ∈ putN es k b v, e.1.depth ≤ 8 := fun e he => by
    unfold putN at he
    split at he
    · obtain ⟨e0, he0, rfl⟩ := List.mem_map.mp he
      split
      · rename_i z; show e0.1.depth ≤ 8; exact dp e0 he0
      · exact dp e0 he0
    · rcases List.mem_append.mp he with he | he
      · exact dp e he
      · rw [List.mem_singleton] at he; subst he; exact k2
  refine ⟨_, d_write I (by rw [d.at_]; exact True.intro) hs ⟨o, g1⟩ ?_, q⟩
  refine ⟨⟨by omega, hd, dps, _, r.put k b rv, o, es', ep, g1, g2, g3, g4, g5⟩, ⟨o, g1⟩, fun h1 h2 φ k => ?_⟩
  obtain ⟨q1, q2, q3, ys, q4, o', e1, e2, q5, q6⟩ := φ
  exact ⟨q1, q2, q3, ys, q4, o', e1, e2, k o' q5, q6⟩
/-- {} -/
def tDNewN (B : Bs) : TE := fun _ H Q => ∀ p, H p = none → Q (.ref p) (upd H p (hoN B p []))
theorem pe_dnewN {pos : Pos} : PE X (.Dict [] [] pos) (tDNewN (Bx X)) := ⟨fun pins s σ H Q I h =>
  wpAny_Dict_empty ⟨.ref s.heap.objs.size, _, I.laid (a := s.heap.objs.size) (o := hoN (Bx X) s.heap.objs.size []) (t' := s.toks) (fun _ _ q => Heap.get?_push_of_some _ q) (Nat.le_refl _) (by
    have g := Heap.get?_push_size s.heap (o := { cls := .type "dict", data := .dict #[] }) rfl
    refine ⟨⟨Nat.zero_le _, beq_eq_false_iff_ne.mpr (Ne.symm (Nat.ne_of_lt I.big)), ⟨fun e h => absurd h (by simp), [], Paired.nil, _, #[], 0, g, ⟨rfl, rfl, rfl⟩, rfl, rfl, List.nodup_nil⟩⟩, ⟨_, g⟩, fun h1 h2 φ k => ?_⟩
    obtain ⟨q1, q2, q3, ys, q4, o', e1, e2, q5, q6⟩ := φ
    exact ⟨q1, q2, q3, ys, q4, o', e1, e2, k o' q5, q6⟩), rfl, h _ (I.hok.fresh (Nat.le_refl _))⟩⟩
def rLenN (B : Bs) : List V → Hp → VK → Prop := fun xs H Q => ∃ a es, xs = [.ref a] ∧ DNat B H a es ∧ Q (.int es.length) H
theorem call_lenN : CallR X (.builtin "len") (rLenN (Bx X)) := by
  intro pins s σ H xs us Q I r h
  obtain ⟨a, es, rfl, d, q⟩ := h
  obtain ⟨u, rfl, rx⟩ := vals1 r
  obtain rfl : u = .ref a := rx
  obtain ⟨z, hd, dp, ys, rel, dd⟩ := dn_of I d
  have hl := Paired.length rel
  refine call_len_dictH hd dd (by rw [← hl]; rw [sizeLine_eq] at z; omega) ?_
  refine ⟨.int es.length, H, I.tok _, ⟨s.toks + 1, ?_⟩, q⟩
  rw [hl]
end
end DL

namespace DL
open PySem L2

/-- how keys of a type are written -/
structure KeyEnc (α : Type) where
  ek : α → T
  en : α → NestedKey
  nk : ∀ a, (ek a).nk = some (en a)
  inj : ∀ a b, en a = en b → a = b
  depth : ∀ a, (en a).depth ≤ 8
  tup : ∀ a, ∃ ts, ek a = .tup ts
/-- a dict as pairs, in the order of insertion -/
def getM {α β : Type} [DecidableEq α] : List (α × β) → α → Option β
  | [], _ => none
  | (k, b) :: m, a => if k = a then some b else getM m a
def putM {α β : Type} [DecidableEq α] (m : List (α × β)) (a : α) (b : β) : List (α × β) := if (getM m a).isSome then m.map (fun p => if p.1 = a then (p.1, b) else p) else m ++ [(a, b)]
def OW.N {α β : Type} (ke : KeyEnc α) (ev : β → T) (m : List (α × β)) : OW := .dN (m.map fun p => ke.ek p.1) (m.map fun p => ev p.2)
def T.N {α β : Type} (ke : KeyEnc α) (ev : β → T) (m : List (α × β)) : T := .dN (m.map fun p => ke.ek p.1) (m.map fun p => ev p.2)
section
variable {α β : Type} [DecidableEq α] {ke : KeyEnc α} {ev : β → T} {B : Bs} {F H : Hp} {a : Addr} {m : List (α × β)} {k : α}
theorem nks_map (ke : KeyEnc α) : ∀ m : List (α × β), T.nks (m.map fun p => ke.ek p.1) = some (m.map fun p => ke.en p.1)
  | [] => rfl
  | p :: m => by rw [List.map_cons, T.nks, ke.nk, nks_map ke m]; rfl
/-- what the model holds of such a dict -/
structure NAt (B : Bs) (F H : Hp) (a : Addr) (ke : KeyEnc α) (ev : β → T) (m : List (α × β)) (es : List EN) : Prop where
  d : DNat B H a es
  k : es.map (·.1) = m.map fun p => ke.en p.1
  r : DVs B F (es.map fun e => .ref e.2.1) (m.map fun p => ke.ek p.1)
  v : DVs B F (es.map fun e => e.2.2) (m.map fun p => ev p.2)
theorem NAt.of {es : List EN} (e : Ex F H) (h1 : H a = some (hoN B a es)) (h2 : T.nks (m.map fun p => ke.ek p.1) = some (es.map (·.1))) (h3 : DVs B F (es.map fun e => V.ref e.2.1) (m.map fun p => ke.ek p.1)) (h4 : DVs B F (es.map fun e => e.2.2) (m.map fun p => ev p.2)) : NAt B F H a ke ev m es := by
  rw [nks_map] at h2
  exact ⟨⟨h1, F, _, e, by rw [nks_map]; exact h2, h3⟩, (Option.some.inj h2).symm, h3, h4⟩
theorem look_get : ∀ {es : List EN} {m : List (α × β)}, es.map (·.1) = (m.map fun p => ke.en p.1) → DVs B F (es.map fun e => e.2.2) (m.map fun p => ev p.2) → ∀ k, (lookN es (ke.en k)).isSome = (getM m k).isSome ∧ ∀ b, getM m k = some b → ∃ v, lookN es (ke.en k) = some v ∧ DV B F v (ev b)
  | [], [], _, _, k => ⟨rfl, fun b h => by cases h⟩
  | [], _ :: _, h, _, _ => by simp at h
  | _ :: _, [], h, _, _ => by simp at h
  | e :: es, (a, b) :: m, h, hv, k => by
    rw [List.map_cons, List.map_cons] at h hv
    injection h with h1 h2
    obtain ⟨v1, v2⟩ := hv.uncons
    obtain ⟨i1, i2⟩ := look_get h2 v2 k
    by_cases z : a = k
    · have e1 : e.1 = ke.en k := by rw [h1, z]
      have q : lookN (e :: es) (ke.en k) = some e.2.2 := by simp [lookN, List.find?_cons, e1]
      have g : getM ((a, b) :: m) k = some b := by rw [getM, if_pos z]
      rw [q, g]
      exact ⟨rfl, fun b' hb => by cases hb; exact ⟨_, rfl, v1⟩⟩
    · have e1 : ¬ e.1 = ke.en k := fun y => z (ke.inj _ _ (by rw [← y, h1]))
      have q : lookN (e :: es) (ke.en k) = lookN es (ke.en k) := by simp [lookN, List.find?_cons, e1]
      have g : getM ((a, b) :: m) k = getM m k := by rw [getM, if_neg z]
      rw [q, g]
      exact ⟨i1, i2⟩
theorem put_at {es : List EN} {y : V} {b : Addr} {v : V} {x : β} (h1 : es.map (·.1) = m.map fun p => ke.en p.1) (h2 : DVs B F (es.map fun e => V.ref e.2.1) (m.map fun p => ke.ek p.1)) (h3 : DVs B F (es.map fun e => e.2.2) (m.map fun p => ev p.2))
    (hk : DV B F (.ref b) (ke.ek k)) (hv : DV B F v (ev x)) :
    (putN es (ke.en k) b v).map (·.1) = ((putM m k x).map fun p => ke.en p.1) ∧ DVs B F ((putN es (ke.en k) b v).map fun e => V.ref e.2.1) ((putM m k x).map fun p => ke.ek p.1) ∧ DVs B F ((putN es (ke.en k) b v).map fun e => e.2.2) ((putM m k x).map fun p => ev p.2) := by
  have q := (look_get h1 h3 k).1
  unfold putN putM
  rw [q]
  by_cases z : (getM m k).isSome = true
  · rw [if_pos z, if_pos z]
    clear q z
    induction es generalizing m with
    | nil =>
      cases m with
      | nil => exact ⟨rfl, .nil, .nil⟩
      | cons _ _ => simp at h1
    | cons e es ih =>
      cases m with
      | nil => simp at h1
      | cons p m =>
        rw [List.map_cons, List.map_cons] at h1 h2 h3
        injection h1 with a1 a2
        obtain ⟨b1, b2⟩ := h2.uncons
        obtain ⟨c1, c2⟩ := h3.uncons
        obtain ⟨i1, i2, i3⟩ := ih a2 b2 c2
        simp only [List.map_cons]
        by_cases z : p.1 = k
        · have e1 : e.1 = ke.en k := by rw [a1, z]
          rw [if_pos e1, if_pos z]
          exact ⟨by simp only [i1, a1], .cons b1 i2, .cons hv i3⟩
        · have e1 : ¬ e.1 = ke.en k := fun y => z (ke.inj _ _ (by rw [← y, a1]))
          rw [if_neg e1, if_neg z]
          exact ⟨by simp only [i1, a1], .cons b1 i2, .cons c1 i3⟩
  · rw [if_neg z, if_neg z]
    refine ⟨by rw [List.map_append, List.map_append, h1]; rfl, ?_, ?_⟩
    · rw [List.map_append, List.map_append]; exact h2.append (.cons hk .nil)
    · rw [List.map_append, List.map_append]; exact h3.append (.cons hv .nil)
end
/-- a dict in hand: data, or what a name owns -/
inductive DctV {α β : Type} (δ : List SV) (ke : KeyEnc α) (ev : β → T) : SV → List (α × β) → Prop
  | d {m : List (α × β)} : DctV δ ke ev (.d (.N ke ev m)) m
  | o {a : Addr} {m : List (α × β)} : Owns δ a (.N ke ev m) → DctV δ ke ev (.ptr a) m
section
variable {α β : Type} [DecidableEq α] {ke : KeyEnc α} {ev : β → T} {c : Cn} {δ : List SV} {Post : List SV → SV → Prop} {m : List (α × β)} {k : α}
theorem DctV.at {F : Hp} {g : Addr → Option Loc} {σ : L2.St} {H : Hp} {ρ : List (V × SV)} {n : Nat} {s : SV} {x : V} (l : DctV δ ke ev s m) (S : StF c F g σ H δ ρ) (h : TempOk c F g H n (x, s)) : ∃ a es, x = .ref a ∧ NAt c.B F H a ke ev m es := by
  cases l with
  | d =>
    have h : DV c.B F x (.N ke ev m) := h
    unfold T.N at h
    simp only [DV] at h
    obtain ⟨a, es, e, h1, h2, h3, h4⟩ := h
    exact ⟨a, es, e, .of S.fh (S.fh _ _ h1) h2 h3 h4⟩
  | o w =>
    have q := S.owned w
    unfold OW.N at q
    obtain ⟨es, h1, h2, h3, h4⟩ := q
    exact ⟨_, es, h, .of S.fh h1 h2 h3 h4⟩
theorem key_ok {F H : Hp} {B : Bs} {y : V} (e : Ex F H) (h : DV B F y (ke.ek k)) : (∃ b, y = .ref b) ∧ KeyAt B H y (ke.en k) := by
  obtain ⟨ts, q⟩ := ke.tup k
  refine ⟨?_, F, _, e, h, ke.nk k, ke.depth k⟩
  rw [q] at h
  simp only [DV] at h
  obtain ⟨a, _, e, _⟩ := h
  exact ⟨a, e⟩
theorem o2_getN {s : SV} {b : β} (l : DctV δ ke ev s m) (hb : getM m k = some b) (q : Post δ (.d (ev b))) : OP2 c (rNGet c.B) δ s (.d (ke.ek k)) Post := fun σ H ρ x y Q S qq => by
  obtain ⟨F, g, S2, h1, h2⟩ := S.top2
  obtain ⟨a, es, rfl, na⟩ := l.at S2 h1
  obtain ⟨⟨bb, rfl⟩, kk⟩ := key_ok S2.fh h2
  obtain ⟨v, e, hv⟩ := (look_get na.k na.v k).2 b hb
  exact ⟨a, es, _, bb, v, rfl, rfl, na.d, kk, e, qq _ _ δ _ q ⟨F, g, S2, hv⟩⟩
theorem o2_inN {s : SV} (l : DctV δ ke ev s m) (q : Post δ (.d (.bl (getM m k).isSome))) : OP2 c (rNIn c.B false) δ (.d (ke.ek k)) s Post := fun σ H ρ y x Q S qq => by
  obtain ⟨F, g, S2, h2, h1⟩ := S.top2
  obtain ⟨a, es, rfl, na⟩ := l.at S2 h1
  obtain ⟨⟨bb, rfl⟩, kk⟩ := key_ok S2.fh h2
  refine ⟨a, es, _, bb, rfl, rfl, na.d, kk, ?_⟩
  rw [if_neg (by decide), (look_get na.k na.v k).1]
  exact qq _ _ δ _ q (St.flat ⟨F, g, S2⟩ (t := .bl (getM m k).isSome) rfl)
theorem o2_niN {s : SV} (l : DctV δ ke ev s m) (q : Post δ (.d (.bl (!(getM m k).isSome)))) : OP2 c (rNIn c.B true) δ (.d (ke.ek k)) s Post := fun σ H ρ y x Q S qq => by
  obtain ⟨F, g, S2, h2, h1⟩ := S.top2
  obtain ⟨a, es, rfl, na⟩ := l.at S2 h1
  obtain ⟨⟨bb, rfl⟩, kk⟩ := key_ok S2.fh h2
  refine ⟨a, es, _, bb, rfl, rfl, na.d, kk, ?_⟩
  rw [if_pos rfl, (look_get na.k na.v k).1]
  exact qq _ _ δ _ q (St.flat ⟨F, g, S2⟩ (t := .bl (!(getM m k).isSome)) rfl)
theorem oa_lenN {s : SV} (l : DctV δ ke ev s m) (q : Post δ (.d (.int m.length))) : OPA c (rLenN c.B) δ [s] Post := fun σ H ρ vs Q hl S qq => by
  obtain ⟨v, rfl, S⟩ := S.arg1 hl
  obtain ⟨F, g, S2, h⟩ := S.top1
  obtain ⟨a, es, rfl, na⟩ := l.at S2 h
  refine ⟨a, es, rfl, na.d, ?_⟩
  have e : es.length = m.length := by have := congrArg List.length na.k; simpa using this
  rw [e]
  exact qq _ _ δ _ q (St.flat ⟨F, g, S2⟩ (t := .int m.length) rfl)
theorem ev_newN (ke : KeyEnc α) (ev : β → T) (q : ∀ p, Post δ (.own p (.N ke ev []))) : EV c (tDNewN c.B) δ Post := fun σ H ρ Q S qq p hp => by
  obtain ⟨F, g, S⟩ := S
  obtain ⟨g', S', hg, _, h0⟩ := S.newOwn (u := hoN c.B p []) hp
  exact qq _ _ δ _ (q p) ⟨F, g', S', rfl, hg, h0, [], upd_same, rfl, .nil, .nil⟩
/-- d[k] = v of an owned dict -/
theorem es_setN {ta tb te : TE} {R : DEnds} (h : EV c te δ fun δ1 r => ∃ x : β, Pu r (.d (ev x)) ∧ EV c ta δ1 fun δ2 r2 => ∃ a, r2 = .ptr a ∧ EV c tb δ2 fun δ3 r3 => ∃ k : α, r3 = .d (ke.ek k) ∧ ∃ (j : Nat) (m : List (α × β)), m.length < sizeLine ∧
    δ3[j]? = some (SV.own a (.N ke ev m)) ∧ R.nx (δ3.set j (.own a (.N ke ev (putM m k x))))) : ES c (tAsg te (gSub ta tb (rNSet c.B))) δ R := fun σ H ρ D S M =>
  h σ H ρ _ S fun v H1 δ1 r ⟨x, p, k⟩ S1 => k σ H1 _ _ (S1.put p) fun o H2 δ2 r2 ⟨a, e2, k2⟩ S2 => by
    subst e2
    refine k2 σ H2 _ _ S2.pushP fun iv H3 δ3 r3 ⟨kk, e3, j, m, hz, hj, k3⟩ S3 => ?_
    subst e3
    obtain ⟨F, g, S3, hi⟩ := S3
    have ho : o = .ref a := S3.last
    subst ho
    have hv : DV c.B F v (ev x) := S3.drop.last
    have S4 := S3.drop.drop
    have hi : DV c.B F iv (ke.ek kk) := hi
    obtain ⟨⟨bb, rfl⟩, ka⟩ := key_ok S4.fh hi
    obtain ⟨_, _, _, q⟩ := S4.sl j _ hj
    unfold OW.N at q
    obtain ⟨es, h1, h2, h3, h4⟩ := q
    have na : NAt c.B F H3 a ke ev m es := .of S4.fh h1 h2 h3 h4
    have e : es.length = m.length := by have := congrArg List.length na.k; simpa using this
    obtain ⟨q1, q2, q3⟩ := put_at (y := v) (b := bb) (k := kk) na.k na.r na.v hi hv
    exact ⟨a, es, _, bb, rfl, rfl, na.d, ka, by rw [e]; exact hz, M.nx _ _ _ k3 ⟨F, g, S4.updO hj ⟨_, upd_same, by rw [nks_map, q1], q2, q3⟩⟩⟩
end
end DL

namespace DL
open PySem L2

/-! ### dicts whose keys are numbers or texts -/
structure AtomEnc (α : Type) where
  kk : α → Key
  inj : ∀ a b, kk a = kk b → a = b
def tK : Key → T
  | .inl i => .int i
  | .inr x => .str x
theorem DV.tK {B : Bs} {F : Hp} {v : V} : ∀ {k : Key}, DV B F v (tK k) → v = kV k
  | .inl i, h => DV.int_ h
  | .inr x, h => DV.str_ h
def natA : AtomEnc Nat := ⟨fun n => .inl n, fun a b h => by injection h with h; exact Int.ofNat.inj h⟩
def strA : AtomEnc Str := ⟨fun n => .inr n, fun a b h => by injection h⟩
def OW.K {α β : Type} (ke : AtomEnc α) (ev : β → T) (m : List (α × β)) : OW := .dK (m.map fun p => ke.kk p.1) (m.map fun p => ev p.2)
def T.K {α β : Type} (ke : AtomEnc α) (ev : β → T) (m : List (α × β)) : T := .dK (m.map fun p => ke.kk p.1) (m.map fun p => ev p.2)
inductive DckV {α β : Type} (δ : List SV) (ke : AtomEnc α) (ev : β → T) : SV → List (α × β) → Prop
  | d {m : List (α × β)} : DckV δ ke ev (.d (.K ke ev m)) m
  | o {a : Addr} {m : List (α × β)} : Owns δ a (.K ke ev m) → DckV δ ke ev (.ptr a) m
section
variable {α β : Type} [DecidableEq α] {ke : AtomEnc α} {ev : β → T} {B : Bs} {F H : Hp}
theorem val_get : ∀ {kvs : List (Key × V)} {m : List (α × β)}, kvs.map (·.1) = (m.map fun p => ke.kk p.1) → DVs B F (kvs.map (·.2)) (m.map fun p => ev p.2) → ∀ k, (valV kvs (ke.kk k)).isSome = (getM m k).isSome ∧ ∀ b, getM m k = some b → ∃ v, valV kvs (ke.kk k) = some v ∧ DV B F v (ev b)
  | [], [], _, _, k => ⟨rfl, fun b h => by cases h⟩
  | [], _ :: _, h, _, _ => by simp at h
  | _ :: _, [], h, _, _ => by simp at h
  | e :: es, (a, b) :: m, h, hv, k => by
    rw [List.map_cons, List.map_cons] at h hv
    injection h with h1 h2
    obtain ⟨v1, v2⟩ := hv.uncons
    obtain ⟨i1, i2⟩ := val_get h2 v2 k
    by_cases z : a = k
    · have e1 : e.1 = ke.kk k := by rw [h1, z]
      have g : getM ((a, b) :: m) k = some b := by rw [getM, if_pos z]
      rw [valV_pos e1, g]
      exact ⟨rfl, fun b' hb => by cases hb; exact ⟨_, rfl, v1⟩⟩
    · have e1 : ¬ e.1 = ke.kk k := fun y => z (ke.inj _ _ (by rw [← y, h1]))
      have g : getM ((a, b) :: m) k = getM m k := by rw [getM, if_neg z]
      rw [valV_neg e1, g]
      exact ⟨i1, i2⟩
theorem putK_at {kvs : List (Key × V)} {m : List (α × β)} {k : α} {v : V} {x : β} (h1 : kvs.map (·.1) = (m.map fun p => ke.kk p.1)) (h3 : DVs B F (kvs.map (·.2)) (m.map fun p => ev p.2)) (hv : DV B F v (ev x)) :
    (putK kvs (ke.kk k) v).map (·.1) = ((putM m k x).map fun p => ke.kk p.1) ∧ DVs B F ((putK kvs (ke.kk k) v).map (·.2)) ((putM m k x).map fun p => ev p.2) := by
  have q := (val_get h1 h3 k).1
  unfold putK putM
  rw [valV_any, q]
  by_cases z : (getM m k).isSome = true
  · rw [if_pos z, if_pos z]
    clear q z
    induction kvs generalizing m with
    | nil =>
      cases m with
      | nil => exact ⟨rfl, .nil⟩
      | cons _ _ => simp at h1
    | cons e es ih =>
      cases m with
      | nil => simp at h1
      | cons p m =>
        rw [List.map_cons, List.map_cons] at h1 h3
        injection h1 with a1 a2
        obtain ⟨c1, c2⟩ := h3.uncons
        obtain ⟨i1, i3⟩ := ih a2 c2
        simp only [List.map_cons]
        by_cases z : p.1 = k
        · have e1 : e.1 = ke.kk k := by rw [a1, z]
          rw [if_pos e1, if_pos z]
          exact ⟨by simp only [i1, a1], .cons hv i3⟩
        · have e1 : ¬ e.1 = ke.kk k := fun y => z (ke.inj _ _ (by rw [← y, a1]))
          rw [if_neg e1, if_neg z]
          exact ⟨by simp only [i1, a1], .cons c1 i3⟩
  · rw [if_neg z, if_neg z]
    refine ⟨by rw [List.map_append, List.map_append, h1]; rfl, ?_⟩
    rw [List.map_append, List.map_append]; exact h3.append (.cons hv .nil)
end
/-! ### universal readings -/
def orR (f g : R2) : R2 := fun x y H Q => f x y H Q ∨ g x y H Q
def rKGet : R2 := fun x y H Q => ∃ a kvs k v, x = .ref a ∧ H a = some (.dK kvs) ∧ y = kV k ∧ valV kvs k = some v ∧ Q v H
def rKIn (neg : Bool) : R2 := fun y x H Q => ∃ a kvs k, x = .ref a ∧ H a = some (.dK kvs) ∧ y = kV k ∧ Q (.bl (if neg then !(valV kvs k).isSome else (valV kvs k).isSome)) H
def rInS (neg : Bool) : R2 := fun x y H Q => ∃ i j, x = .str i ∧ y = .str j ∧ Q (.bl (if neg then !(!(Builtin.Str.occurrences j i 0 j.length 1).isEmpty) else !(Builtin.Str.occurrences j i 0 j.length 1).isEmpty)) H
def uIx (B : Bs) : R2 := orR (rIx B.K) (orR (rNGet B) rKGet)
def uIn (B : Bs) (neg : Bool) : R2 := orR (rIn B.K neg) (orR (rNIn B neg) (orR (rKIn neg) (rInS neg)))
def orS (f g : TSet) : TSet := fun o i v H Q => f o i v H Q ∨ g o i v H Q
def rKSet : TSet := fun o i v H Q => ∃ a kvs k, o = .ref a ∧ H a = some (.dK kvs) ∧ i = kV k ∧ kvs.length < sizeLine ∧ Q (upd H a (.dK (putK kvs k v)))
def uSet (B : Bs) : TSet := orS rSetL (orS (rNSet B) rKSet)
def orA (f g : List V → Hp → VK → Prop) : List V → Hp → VK → Prop := fun xs H Q => f xs H Q ∨ g xs H Q
def rLenK : List V → Hp → VK → Prop := fun xs H Q => ∃ a kvs, xs = [V.ref a] ∧ H a = some (.dK kvs) ∧ Q (.int kvs.length) H
def uLen (B : Bs) : List V → Hp → VK → Prop := orA (rLen B.K) (orA (rLenN B) rLenK)
section
variable {X : Cx}
theorem ix_K : IxR X rKGet := by
  intro value slice pins s σ H x y v u Q I rx ry h hs
  obtain ⟨a, kvs, k, w, rfl, ha, rfl, e, q⟩ := h
  cases rx
  obtain ⟨z, hd, vs, rel, dd⟩ := dk_of I.hok ha
  obtain ⟨w', hw, rw'⟩ := RelO.some_of (v := w) (o := valueAt vs k) (by rw [← e]; exact rel.val k)
  refine PyProof.Rows.subscriptTail_builtinR (x := w') dd.typeIs PySem.F.slot_dict_getitem.lookup (Q := EP X pins σ Q) ?_ hs
  exact wpAny_getItem_of (kV_is ry) dd.mapOf hw ⟨rfl, w, H, I.tok _, rw', q⟩
theorem ix_U (hu : X.A.units + 64 < cLine) : IxR X (uIx (Bx X)) := ix_seq.or ((ix_N hu).or ix_K)
theorem op_KIn (hu : X.A.units + 64 < cLine) : OpR X (compareOp .In) (rKIn false) := by
  intro pins s σ H y x u v Q I ry rx h
  obtain ⟨a, kvs, k, rfl, ha, rfl, q⟩ := h
  cases rx
  exact d_in (by omega) I (DGet.k ha) ry fun s' I' => ⟨.bl _, H, I', rfl, q⟩
theorem op_KNotIn (hu : X.A.units + 64 < cLine) : OpR X (compareOp .NotIn) (rKIn true) := by
  intro pins s σ H y x u v Q I ry rx h
  obtain ⟨a, kvs, k, rfl, ha, rfl, q⟩ := h
  cases rx
  exact d_notIn (by omega) I (DGet.k ha) ry fun s' I' => ⟨.bl _, H, I', rfl, q⟩
theorem op_inS : OpR X (compareOp .In) (rInS false) := op_in_str
theorem op_notInS : OpR X (compareOp .NotIn) (rInS true) := op_notIn_str
theorem op_uIn (hu : X.A.units + 64 < cLine) : OpR X (compareOp .In) (uIn (Bx X) false) := op_in_seq.or ((op_NIn hu).or ((op_KIn hu).or op_inS))
theorem op_uNotIn (hu : X.A.units + 64 < cLine) : OpR X (compareOp .NotIn) (uIn (Bx X) true) := op_notIn_seq.or ((op_NNotIn hu).or ((op_KNotIn hu).or op_notInS))
theorem PSet.or {f g : TSet} (h : PSet X f) (h' : PSet X g) : PSet X (orS f g) := by
  intro pins s σ H o i v ov iv u Q I ro ri rv q
  rcases q with q | q
  · exact h pins s σ H o i v ov iv u Q I ro ri rv q
  · exact h' pins s σ H o i v ov iv u Q I ro ri rv q
theorem set_K (hu : X.A.units + 64 < cLine) : PSet X rKSet := by
  intro pins s σ H o i v ov iv u Q I ro ri rv h
  obtain ⟨a, kvs, k, rfl, ha, rfl, hz, q⟩ := h
  cases ro
  exact d_setItem (by omega) I (DPut.k ha hz) ri rv fun s' I' => ⟨_, I', q⟩
theorem set_U (hu : X.A.units + 64 < cLine) : PSet X (uSet (Bx X)) := PSet.or set_list (PSet.or (set_N hu) (set_K hu))
theorem call_lenK : CallR X (.builtin "len") rLenK := by
  intro pins s σ H xs us Q I r h
  obtain ⟨a, kvs, rfl, ha, q⟩ := h
  obtain ⟨u, rfl, rx⟩ := vals1 r
  obtain rfl : u = .ref a := rx
  exact d_len I (.inl ha) fun t s' I' => ⟨.int kvs.length, H, I', ⟨t, rfl⟩, q⟩
theorem call_uLen : CallR X (.builtin "len") (uLen (Bx X)) := call_len'.or (call_lenN.or call_lenK)
end
section
variable {c : Cn} {δ : List SV} {Post : List SV → SV → Prop} {s1 s2 s3 : SV} {f g : R2}
theorem o2_l (h : OP2 c f δ s1 s2 Post) : OP2 c (orR f g) δ s1 s2 Post := fun σ H ρ x y Q S q => .inl (h σ H ρ x y Q S q)
theorem o2_r (h : OP2 c g δ s1 s2 Post) : OP2 c (orR f g) δ s1 s2 Post := fun σ H ρ x y Q S q => .inr (h σ H ρ x y Q S q)
theorem oa_l {f g : List V → Hp → VK → Prop} {rs : List SV} (h : OPA c f δ rs Post) : OPA c (orA f g) δ rs Post := fun σ H ρ vs Q hl S q => .inl (h σ H ρ vs Q hl S q)
theorem oa_r {f g : List V → Hp → VK → Prop} {rs : List SV} (h : OPA c g δ rs Post) : OPA c (orA f g) δ rs Post := fun σ H ρ vs Q hl S q => .inr (h σ H ρ vs Q hl S q)
/-! names of the single cases -/
theorem uix_L {ts : List T} {i : Int} {t : T} (l : LstV δ s1 ts) (e : atI ts i = some t) (k : Post δ (.d t)) : OP2 c (uIx c.B) δ s1 (.d (.int i)) Post := o2_l (o2_ixL l e k)
theorem uix_R {ts : List T} {i : Int} {t : T} (e : atI ts i = some t) (k : Post δ (.d t)) : OP2 c (uIx c.B) δ (.d (.rl ts)) (.d (.int i)) Post := o2_l (o2_ixR e k)
theorem uix_T {ts : List T} {i : Int} {t : T} (e : atI ts i = some t) (k : Post δ (.d t)) : OP2 c (uIx c.B) δ (.d (.tup ts)) (.d (.int i)) Post := o2_l (o2_ixT e k)
theorem uix_S {z : Str} {i : Int} {n : Nat} (hz : z.length ≤ sizeLine) (e : atI z.cps.toList i = some n) (k : Post δ (.d (.str ⟨#[n]⟩))) : OP2 c (uIx c.B) δ (.d (.str z)) (.d (.int i)) Post := o2_l (o2_ixS hz e k)
theorem ulen_L {ts : List T} (l : LstV δ s1 ts) (k : Post δ (.d (.int ts.length))) : OPA c (uLen c.B) δ [s1] Post := oa_l (oa_lenL l k)
theorem ulen_R {ts : List T} (k : Post δ (.d (.int ts.length))) : OPA c (uLen c.B) δ [.d (.rl ts)] Post := oa_l (oa_lenR k)
theorem ulen_T {ts : List T} (k : Post δ (.d (.int ts.length))) : OPA c (uLen c.B) δ [.d (.tup ts)] Post := oa_l (oa_lenT k)
theorem ulen_S {z : Str} (hz : z.length ≤ sizeLine) (k : Post δ (.d (.int z.length))) : OPA c (uLen c.B) δ [.d (.str z)] Post := oa_l (oa_lenS hz k)
section
variable {α β : Type} [DecidableEq α] {ke : KeyEnc α} {ka : AtomEnc α} {ev : β → T} {m : List (α × β)} {k : α}
theorem uix_N {b : β} (l : DctV δ ke ev s1 m) (hb : getM m k = some b) (q : Post δ (.d (ev b))) : OP2 c (uIx c.B) δ s1 (.d (ke.ek k)) Post := o2_r (o2_l (o2_getN l hb q))
theorem uin_N (l : DctV δ ke ev s1 m) (q : Post δ (.d (.bl (getM m k).isSome))) : OP2 c (uIn c.B false) δ (.d (ke.ek k)) s1 Post := o2_r (o2_l (o2_inN l q))
theorem uni_N (l : DctV δ ke ev s1 m) (q : Post δ (.d (.bl (!(getM m k).isSome)))) : OP2 c (uIn c.B true) δ (.d (ke.ek k)) s1 Post := o2_r (o2_l (o2_niN l q))
theorem ulen_N (l : DctV δ ke ev s1 m) (q : Post δ (.d (.int m.length))) : OPA c (uLen c.B) δ [s1] Post := oa_r (oa_l (oa_lenN l q))
theorem DckV.at {F : Hp} {g : Addr → Option Loc} {σ : L2.St} {H : Hp} {ρ : List (V × SV)} {n : Nat} {s : SV} {x : V} (l : DckV δ ka ev s m) (S : StF c F g σ H δ ρ) (h : TempOk c F g H n (x, s)) : ∃ a kvs, x = .ref a ∧ H a = some (.dK kvs) ∧ kvs.map (·.1) = (m.map fun p => ka.kk p.1) ∧ DVs c.B F (kvs.map (·.2)) (m.map fun p => ev p.2) := by
  cases l with
  | d =>
    have h : DV c.B F x (.K ka ev m) := h
    unfold T.K at h
    simp only [DV] at h
    obtain ⟨a, kvs, e, h1, h2, h3⟩ := h
    exact ⟨a, kvs, e, S.fh _ _ h1, h2, h3⟩
  | o w =>
    have q := S.owned w
    unfold OW.K at q
    obtain ⟨kvs, h1, h2, h3⟩ := q
    exact ⟨_, kvs, h, h1, h2, h3⟩
theorem uix_K {b : β} (l : DckV δ ka ev s1 m) (hb : getM m k = some b) (q : Post δ (.d (ev b))) : OP2 c (uIx c.B) δ s1 (.d (tK (ka.kk k))) Post := fun σ H ρ x y Q S qq => by
  obtain ⟨F, g, S2, h1, h2⟩ := S.top2
  obtain ⟨a, kvs, rfl, ha, hk, hv⟩ := l.at S2 h1
  obtain ⟨v, e, hv⟩ := (val_get hk hv k).2 b hb
  exact .inr (.inr ⟨a, kvs, _, v, rfl, ha, DV.tK (B := c.B) (F := F) h2, e, qq _ _ δ _ q ⟨F, g, S2, hv⟩⟩)
theorem uin_K (l : DckV δ ka ev s1 m) (q : Post δ (.d (.bl (getM m k).isSome))) : OP2 c (uIn c.B false) δ (.d (tK (ka.kk k))) s1 Post := fun σ H ρ y x Q S qq => by
  obtain ⟨F, g, S2, h2, h1⟩ := S.top2
  obtain ⟨a, kvs, rfl, ha, hk, hv⟩ := l.at S2 h1
  refine .inr (.inr (.inl ⟨a, kvs, _, rfl, ha, DV.tK (B := c.B) (F := F) h2, ?_⟩))
  rw [if_neg (by decide), (val_get hk hv k).1]
  exact qq _ _ δ _ q (St.flat ⟨F, g, S2⟩ (t := .bl (getM m k).isSome) rfl)
theorem uni_K (l : DckV δ ka ev s1 m) (q : Post δ (.d (.bl (!(getM m k).isSome)))) : OP2 c (uIn c.B true) δ (.d (tK (ka.kk k))) s1 Post := fun σ H ρ y x Q S qq => by
  obtain ⟨F, g, S2, h2, h1⟩ := S.top2
  obtain ⟨a, kvs, rfl, ha, hk, hv⟩ := l.at S2 h1
  refine .inr (.inr (.inl ⟨a, kvs, _, rfl, ha, DV.tK (B := c.B) (F := F) h2, ?_⟩))
  rw [if_pos rfl, (val_get hk hv k).1]
  exact qq _ _ δ _ q (St.flat ⟨F, g, S2⟩ (t := .bl (!(getM m k).isSome)) rfl)
theorem ulen_K (l : DckV δ ka ev s1 m) (q : Post δ (.d (.int m.length))) : OPA c (uLen c.B) δ [s1] Post := fun σ H ρ vs Q hl S qq => by
  obtain ⟨v, rfl, S⟩ := S.arg1 hl
  obtain ⟨F, g, S2, h⟩ := S.top1
  obtain ⟨a, kvs, rfl, ha, hk, hv⟩ := l.at S2 h
  refine .inr (.inr ⟨a, kvs, rfl, ha, ?_⟩)
  have e : kvs.length = m.length := by have := congrArg List.length hk; simpa using this
  rw [e]
  exact qq _ _ δ _ q (St.flat ⟨F, g, S2⟩ (t := .int m.length) rfl)
theorem ev_newK (ke : AtomEnc α) (ev : β → T) (q : ∀ p, Post δ (.own p (.K ke ev []))) : EV c tDNewK δ Post := fun σ H ρ Q S qq p hp => by
  obtain ⟨F, g, S⟩ := S
  obtain ⟨g', S', hg, _, h0⟩ := S.newOwn (u := .dK []) hp
  exact qq _ _ δ _ (q p) ⟨F, g', S', rfl, hg, h0, [], upd_same, rfl, .nil⟩
end
/-! ### o[i] = v -/
def OP3 (c : Cn) (f : TSet) (δ : List SV) (s1 s2 s3 : SV) (P : List SV → Prop) : Prop :=
  ∀ σ H ρ o i v Q, St c σ H δ (ρ ++ [(v, s3)] ++ [(o, s1)] ++ [(i, s2)]) → (∀ H' δ', P δ' → St c σ H' δ' ρ → Q H') → f o i v H Q
theorem es_sub {ta tb te : TE} {f : TSet} {R : DEnds} (h : EV c te δ fun δ1 r => ∃ s3, Pu r s3 ∧ EV c ta δ1 fun δ2 r2 => ∃ s1, Pu r2 s1 ∧ EV c tb δ2 fun δ3 r3 => ∃ s2, Pu r3 s2 ∧ OP3 c f δ3 s1 s2 s3 R.nx) : ES c (tAsg te (gSub ta tb f)) δ R := fun σ H ρ D S M =>
  h σ H ρ _ S fun v H1 δ1 r ⟨s3, p, k⟩ S1 => k σ H1 _ _ (S1.put p) fun o H2 δ2 r2 ⟨s1, p2, k2⟩ S2 => k2 σ H2 _ _ (S2.put p2) fun iv H3 δ3 r3 ⟨s2, p3, k3⟩ S3 =>
    k3 σ H3 ρ o iv v _ (S3.put p3) fun H' δ' k4 S4 => M.nx σ H' δ' k4 S4
theorem St.top3 {σ : L2.St} {H : Hp} {ρ : List (V × SV)} {o i v : V} (S : St c σ H δ (ρ ++ [(v, s3)] ++ [(o, s1)] ++ [(i, s2)])) : ∃ F g, StF c F g σ H δ ρ ∧ TempOk c F g H ρ.length (v, s3) ∧ TempOk c F g H (ρ.length + 1) (o, s1) ∧ TempOk c F g H (ρ.length + 2) (i, s2) := by
  obtain ⟨F, g, S, h1, h2⟩ := S.top2
  rw [List.length_append, List.length_singleton] at h1 h2
  exact ⟨F, g, S.drop, S.last, h1, h2⟩
variable {P : List SV → Prop} {a : Addr} {t : T}
theorem o3_O (j : Nat) {i : Int} {ts : List T} {n : Nat} (h : δ[j]? = some (SV.own a (.lst ts))) (hn : ixN ts.length i = some n) (k : P (δ.set j (.own a (.lst (ts.set n t))))) : OP3 c (uSet c.B) δ (.ptr a) (.d (.int i)) (.d t) P := fun σ H ρ o iv v Q S q => by
  obtain ⟨F, g, S4, hv, ho, hi⟩ := S.top3
  have ho : o = .ref a := ho
  have hv : DV c.B F v t := hv
  obtain ⟨_, _, _, xs, hx, hd⟩ := S4.sl j _ h
  exact .inl ⟨a, xs, i, n, ho, DV.int_ (B := c.B) (F := F) hi, hx, by rw [hd.length]; exact hn, q _ _ k ⟨F, g, S4.updO h ⟨_, upd_same, hd.set n hv⟩⟩⟩
theorem o3_A (j : Nat) {i : Int} {ts : List T} {n : Nat} (h : δ[j]? = some (SV.arg a (.lst ts))) (hn : ixN ts.length i = some n) (k : P (δ.set j (.arg a (.lst (ts.set n t))))) : OP3 c (uSet c.B) δ (.ptr a) (.d (.int i)) (.d t) P := fun σ H ρ o iv v Q S q => by
  obtain ⟨F, g, S4, hv, ho, hi⟩ := S.top3
  have ho : o = .ref a := ho
  have hv : DV c.B F v t := hv
  obtain ⟨_, _, _, xs, hx, hd⟩ := S4.sl j _ h
  exact .inl ⟨a, xs, i, n, ho, DV.int_ (B := c.B) (F := F) hi, hx, by rw [hd.length]; exact hn, q _ _ k ⟨F, g, S4.updA h ⟨_, upd_same, hd.set n hv⟩⟩⟩
section
variable {α β : Type} [DecidableEq α] {ke : KeyEnc α} {ka : AtomEnc α} {ev : β → T} {m : List (α × β)} {k : α} {x : β}
theorem o3_N (j : Nat) (h : δ[j]? = some (SV.own a (.N ke ev m))) (hz : m.length < sizeLine) (kk : P (δ.set j (.own a (.N ke ev (putM m k x))))) : OP3 c (uSet c.B) δ (.ptr a) (.d (ke.ek k)) (.d (ev x)) P := fun σ H ρ o iv v Q S q => by
  obtain ⟨F, g, S4, hv, ho, hi⟩ := S.top3
  have ho : o = .ref a := ho
  have hv : DV c.B F v (ev x) := hv
  have hi : DV c.B F iv (ke.ek k) := hi
  obtain ⟨⟨bb, rfl⟩, kat⟩ := key_ok S4.fh hi
  obtain ⟨_, _, _, qq⟩ := S4.sl j _ h
  unfold OW.N at qq
  obtain ⟨es, h1, h2, h3, h4⟩ := qq
  have na : NAt c.B F H a ke ev m es := .of S4.fh h1 h2 h3 h4
  have e : es.length = m.length := by have := congrArg List.length na.k; simpa using this
  obtain ⟨q1, q2, q3⟩ := put_at (y := v) (b := bb) (k := k) na.k na.r na.v hi hv
  exact .inr (.inl ⟨a, es, _, bb, ho, rfl, na.d, kat, by rw [e]; exact hz, q _ _ kk ⟨F, g, S4.updO h ⟨_, upd_same, by rw [nks_map, q1], q2, q3⟩⟩⟩)
theorem o3_K (j : Nat) (h : δ[j]? = some (SV.own a (.K ka ev m))) (hz : m.length < sizeLine) (kk : P (δ.set j (.own a (.K ka ev (putM m k x))))) : OP3 c (uSet c.B) δ (.ptr a) (.d (tK (ka.kk k))) (.d (ev x)) P := fun σ H ρ o iv v Q S q => by
  obtain ⟨F, g, S4, hv, ho, hi⟩ := S.top3
  have ho : o = .ref a := ho
  have hv : DV c.B F v (ev x) := hv
  obtain ⟨_, _, _, qq⟩ := S4.sl j _ h
  unfold OW.K at qq
  obtain ⟨kvs, h1, h2, h3⟩ := qq
  have e : kvs.length = m.length := by have := congrArg List.length h2; simpa using this
  obtain ⟨q1, q2⟩ := putK_at (k := k) (v := v) (x := x) h2 h3 hv
  exact .inr (.inr ⟨a, kvs, _, ho, h1, DV.tK (B := c.B) (F := F) hi, by rw [e]; exact hz, q _ _ kk ⟨F, g, S4.updO h ⟨_, upd_same, q1, q2⟩⟩⟩)
end
end
end DL

namespace DL
open PySem L2

/-! ### sorted -/
def rSorted (B : Bs) : List V → Hp → VK → Prop := fun xs H Q => ∃ a vs ds, xs = [.ref a] ∧ SqL B.K H a vs ∧ DpAll B.K H vs ds ∧ PySem.W.AllAlike ds ∧ PySem.W.Sortable ds ∧ (∀ d ∈ ds, d.depth ≤ 64) ∧ vs.length = ds.length ∧
  ∀ p, H p = none → Q (.ref p) (upd H p (.lst (((vs.zip ds).mergeSort (PySem.W.dataLe false (fun b : V × PyData => b.2))).map (·.1))))
theorem each_zip {X : Cx} {pins : List (Addr × Obj)} {σ : L2.St} {H : Hp} {s : Shared} (I : Inv X pins σ H s) : ∀ {vs : List V} {ds : List PyData} {us : List Value}, DpAll X.K H vs ds → Vals vs us →
    PySem.W.EachIs (fun u (b : V × PyData) => RelV b.1 u) us (vs.zip ds) ∧ PySem.W.EachIs (fun u (b : V × PyData) => ∃ as, Reads s.heap u b.2 as) us (vs.zip ds)
  | _, _, _, .nil, .nil => ⟨.nil, .nil⟩
  | _, _, _, .cons h t, .cons r rs => by
    obtain ⟨q1, q2⟩ := each_zip I t rs
    exact ⟨.cons r q1, .cons (Dp.reads I _ _ _ h r) q2⟩
theorem vals_of_each : ∀ {us : List Value} {bs : List (V × PyData)}, PySem.W.EachIs (fun u (b : V × PyData) => RelV b.1 u) us bs → Vals (bs.map (·.1)) us
  | _, _, .nil => .nil
  | _, _, .cons h t => .cons h (vals_of_each t)
theorem zip_snd {α β : Type} : ∀ (xs : List α) (ys : List β), xs.length = ys.length → (xs.zip ys).map (·.2) = ys
  | [], [], _ => rfl
  | _ :: xs, _ :: ys, h => by rw [List.zip_cons_cons, List.map_cons, zip_snd xs ys (by simpa using h)]
  | [], _ :: _, h => by simp at h
  | _ :: _, [], h => by simp at h
theorem call_sorted' {X : Cx} (hu : X.A.units + 66 < cLine) : CallR X (.builtin "sorted") (rSorted (Bx X)) := by
  intro pins s σ H xs us Q I r h
  obtain ⟨a, vs, ds, rfl, hl, hd, hal, hk, hdp, hlen, q⟩ := h
  obtain ⟨u, rfl, rx⟩ := vals1 r
  obtain rfl : u = .ref a := rx
  obtain ⟨its, rv, pl, hz⟩ := I.list hl
  obtain ⟨e1, e2⟩ := each_zip I hd rv
  have em : (vs.zip ds).map (·.2) = ds := zip_snd vs ds hlen
  refine PySem.W.sorted_data (β := V × PyData) (enc := (·.2)) pl.isList e1 e2 (by rw [em]; exact hal) (by rw [em]; exact hk) (by rw [List.length_zip]; omega) (fun b hb => ?_) fun out ho eo => ?_
  · have : b.2 ∈ ds := by rw [← em]; exact List.mem_map_of_mem hb
    have := hdp _ this
    omega
  · obtain ⟨c, hc⟩ := PyProof.Rows.sortedAll_at s.heap its out.toArray
    have hlen2 : (((vs.zip ds).mergeSort (PySem.W.dataLe false (fun b : V × PyData => b.2))).map (·.1)).length ≤ sizeLine := by
      rw [List.length_map, List.length_mergeSort, List.length_zip]; omega
    have hp : H (s.heap.objs.size + 1) = none := I.hok.fresh (Nat.le_succ _)
    refine ⟨.ref (s.heap.objs.size + 1), _, I.laid (o := .lst (((vs.zip ds).mergeSort (PySem.W.dataLe false (fun b : V × PyData => b.2))).map (·.1))) (t' := s.toks) (fun _ _ => PyProof.Rows.sortedAll_old) (Nat.le_succ _) ⟨hlen2, out, c, vals_of_each eo, hc⟩, rfl, q _ hp⟩
section
variable {c : Cn} {δ : List SV} {Post : List SV → SV → Prop}
theorem pys_map {α : Type} {e : α → T} {d : α → PyData} (h : ∀ a, (e a).py = some (d a)) : ∀ xs : List α, T.pys (xs.map e) = some (xs.map d)
  | [] => rfl
  | x :: xs => by rw [List.map_cons, T.pys, h x, pys_map h xs]; rfl
theorem dvs_all {α : Type} {B : Bs} {F : Hp} {e : α → T} : ∀ zs : List (V × α), (∀ p ∈ zs, DV B F p.1 (e p.2)) → DVs B F (zs.map (·.1)) ((zs.map (·.2)).map e)
  | [], _ => .nil
  | z :: zs, h => .cons (h z List.mem_cons_self) (dvs_all zs fun p hp => h p (List.mem_cons_of_mem _ hp))
theorem all_dvs {α : Type} {B : Bs} {F : Hp} {e : α → T} : ∀ {vs : List V} {xs : List α}, DVs B F vs (xs.map e) → ∀ p ∈ vs.zip xs, DV B F p.1 (e p.2)
  | [], [], _, p, hp => by simp at hp
  | [], _ :: _, _, p, hp => by simp at hp
  | _ :: _, [], _, p, hp => by simp at hp
  | v :: vs, x :: xs, h, p, hp => by
    rw [List.map_cons] at h
    obtain ⟨h1, h2⟩ := h.uncons
    rw [List.zip_cons_cons] at hp
    rcases List.mem_cons.mp hp with e | hp
    · subst e; exact h1
    · exact all_dvs h2 p hp
theorem zip_map_snd {α β : Type} (f : α → β) : ∀ (vs : List V) (xs : List α), vs.zip (xs.map f) = (vs.zip xs).map fun p => (p.1, f p.2)
  | [], _ => rfl
  | _ :: _, [] => rfl
  | v :: vs, x :: xs => by rw [List.map_cons, List.zip_cons_cons, List.zip_cons_cons, List.map_cons, zip_map_snd f vs xs]
/-- sorted(xs): the items typed, e how they are written, d as data -/
theorem oa_sorted {α : Type} {e : α → T} (d : α → PyData) {s : SV} {xs : List α} (l : LstV δ s (xs.map e)) (hpy : ∀ a, (e a).py = some (d a)) (hal : PySem.W.AllAlike (xs.map d)) (hk : PySem.W.Sortable (xs.map d)) (hdp : ∀ a, (d a).depth ≤ 64)
    (k : ∀ p, Post δ (.own p (.lst ((xs.mergeSort fun a b => PySem.W.dataLe false d a b).map e)))) : OPA c (rSorted c.B) δ [s] Post := fun σ H ρ us Q hl S q => by
  obtain ⟨v, rfl, S⟩ := S.arg1 hl
  obtain ⟨F, g, S2, h⟩ := S.top1
  obtain ⟨a, vs, rfl, ha, dv⟩ := l.at S2 h
  have hlen : vs.length = xs.length := by rw [dv.length, List.length_map]
  refine ⟨a, vs, xs.map d, rfl, SqL.of ha, DpAll.mono S2.fh _ _ (DVs.dp _ _ _ dv (pys_map hpy xs)), hal, hk, fun y hy => ?_, by rw [hlen, List.length_map], fun p hp => ?_⟩
  · obtain ⟨z, _, rfl⟩ := List.mem_map.mp hy; exact hdp z
  · refine q _ _ δ _ (k p) (S2.newLst hp ?_)
    have e1 : (vs.zip (xs.map d)).mergeSort (PySem.W.dataLe false (fun b : V × PyData => b.2)) = ((vs.zip xs).mergeSort fun p q => PySem.W.dataLe false d p.2 q.2).map fun p => (p.1, d p.2) := by
      rw [zip_map_snd, List.map_mergeSort]
      intro a _ b _
      rfl
    have e2 : xs.mergeSort (fun a b => PySem.W.dataLe false d a b) = ((vs.zip xs).mergeSort fun p q => PySem.W.dataLe false d p.2 q.2).map (·.2) := by
      rw [List.map_mergeSort (s := fun a b => PySem.W.dataLe false d a b), zip_snd vs xs hlen]
      intro a _ b _
      rfl
    rw [e1, e2, List.map_map]
    exact dvs_all _ fun p hp => all_dvs dv p ((List.mergeSort_perm _ _).mem_iff.mp hp)
end
end DL

namespace DL
open PySem PySem.Spec PyProof.Rows L2

/-! ### dict comprehensions, whatever the kind of dict: o0 the new dict, R how it takes a pair -/
abbrev TDict := Addr → V → V → Hp → (Hp → Prop) → Prop
def tDcG (o0 : Addr → HO) (R : TDict) (wi : TI) (g : TG) (tt : TT) (tk tv : TE) (own : List Nat) : TE := fun σ H Q => wi σ H fun J H1 => ∀ D, H1 D = none →
  ∃ W : Nat → Nat → Hp → Prop, (∃ m, W 0 m (upd H1 D (o0 D))) ∧ ∀ i m H2, W i m H2 → (J.stop i H2 ∧ Q (.ref D) H2) ∨ (J.go i H2 ∧
    ∃ Nx : Hp → Prop, (∀ H', Nx H' → ∃ m', m' < m ∧ W (i + 1) m' H') ∧ ∀ x H', J.yld i H2 x H' → g x (wipe σ own) H' fun σ2 H3 => wipe σ2 own = wipe σ own ∧ tt σ2 H3 fun b H4 =>
      if b = true then tk σ2 H4 fun y H5 => tv σ2 H5 fun z H6 => R D y z H6 Nx else Nx H4)
/-- what is asked of o0 and R -/
structure DictWay (P : Program) (w : World) (K : PySem.W.Frag) (A : Around) (o0 : Addr → HO) (R : TDict) : Prop where
  new : ∀ (H : Hp) (h : Heap), sysModules < h.objs.size → ObjOk P w H (h.push { cls := .type "dict", data := .dict #[] }) h.objs.size (o0 h.objs.size)
  put : ∀ (X : Cx), X.prog = P → X.w = w → X.K = K → X.A = A → ∀ (pins : List (Addr × Obj)) (σ : L2.St) (H : Hp) (s : Shared) (E : Value → Shared → Prop) (D : Addr) (y z : V) (u r : Value) (Nx : Hp → Prop), Inv X pins σ H s → RelV y u → RelV z r → R D y z H Nx →
    wpAny (model P w) A (dictSet D u r) (fun _ s' => ∃ H', Inv X pins σ H' s' ∧ Nx H') E s
section
variable {X : Cx} {o0 : Addr → HO} {R : TDict}
theorem dcg {kx vx tg iter : Expr} {ifs : List Expr} {scope : Scope} {own : List (Str × Nat)} {pos : Pos} {wi : TI} {g : TG} {tt : TT} {tk tv : TE} (way : DictWay X.prog X.w X.K X.A o0 R)
    (calm : X.calm = true) (nd : X.N.Nodup) (pi : PI X tg iter wi) (ok : BlkOk X.N X.env.scope scope own)
    (pgs : ∀ s H C cl fp, PG (X.blk s H scope (compEnvC scope cl C X.env) fp) tg g)
    (pts : ∀ s H C cl fp, PTs (X.blk s H scope (compEnvC scope cl C X.env) fp) ifs tt)
    (pks : ∀ s H C cl fp, PE (X.blk s H scope (compEnvC scope cl C X.env) fp) kx tk)
    (pvs : ∀ s H C cl fp, PE (X.blk s H scope (compEnvC scope cl C X.env) fp) vx tv)
    (plain : ∀ x, foldedSetIterable iter X.env x = pure x := by intro _; rfl) : PE X (.DictComp kx vx [⟨tg, iter, ifs, 0⟩] scope pos) (tDcG o0 R wi g tt tk tv (own.map (·.2))) := by
  constructor
  intro pins s σ H Q I want
  rw [arm_eval_DictComp]
  have caught : ∀ y ∈ scope.names, y.2 = .free → ∃ c, X.env.cells.lookup y.1 = some c := by
    intro y hy e
    exact (ok.free y hy e).elim (fun k => I.ok.has _ (.inl k)) fun k => I.ok.has _ (.inr k)
  refine wpAny_comprehension_free rfl plain (closure_ok caught) ok.kind (fun y hy e => (ok.uniq y hy).trans (by rw [e])) ?_
  refine thn (pi.run pins s σ H _ I want) fun xv s1 hx => thn hx fun itv s2 got => ?_
  obtain ⟨it, fp, tn, J, H2, ei, I2, T, t2, free2, q⟩ := got
  subst ei
  refine wpAny_newObj_type (newEnv_comp ?_)
  have fresh : H2 s2.heap.objs.size = none := I2.hok.fresh (Nat.le_refl _)
  obtain ⟨W, ⟨m0, w0⟩, turn⟩ := q _ fresh
  have I3 : Inv X pins σ (upd H2 s2.heap.objs.size (o0 s2.heap.objs.size)) { s2 with heap := s2.heap.push { cls := .type "dict", data := .dict #[] } } :=
    I2.laid (t' := s2.toks) (fun _ _ e => Heap.get?_push_of_some _ e) (Nat.le_refl _) (way.new _ _ I2.big)
  have below : ∀ b ∈ fp, b < s2.heap.objs.size := fun b hb => let ⟨_, e, _⟩ := T.obj _ _ t2 b hb; Heap.lt_size e
  have free3 : ∀ b ∈ fp, FpOk X pins (upd H2 s2.heap.objs.size (o0 s2.heap.objs.size)) b := fun b hb =>
    ⟨by rw [upd_ne (Nat.ne_of_lt (below b hb))]; exact (free2 b hb).1, (free2 b hb).2⟩
  have t3 : tn 0 (s2.heap.push { cls := .type "dict", data := .dict #[] }) := T.keep _ _ _ t2 fun _ _ _ e => Heap.get?_push_of_some _ e
  have I4 := block_start I3 ok nd fun b hb => ⟨free3 b hb, by rw [Heap.size_push]; exact Nat.lt_succ_of_lt (below b hb)⟩
  -- names for what the block starts with
  generalize hs3 : ({ s2 with heap := s2.heap.push { cls := .type "dict", data := .dict #[] } } : Shared) = s3 at I3 I4
  have eh3 : s2.heap.push { cls := .type "dict", data := .dict #[] } = s3.heap := by rw [← hs3]
  rw [eh3] at t3
  have t4 : tn 0 (pushCells (s3.heap.push { cls := .type "dict", data := .dict #[] }) scope.names) := T.keep _ _ _ t3 fun _ _ _ e => pushCells_keeps _ _ _ _ (Heap.get?_push_of_some _ e)
  have go : ∀ (ce : Env) (H3 : Hp) (s4 : Shared), ce.locals = s3.heap.objs.size → Inv X pins σ H3 s3 → Inv (X.blk s3 H3 scope ce fp) [] (wipe σ (own.map (·.2))) H3 s4 → tn 0 s4.heap → (∀ b ∈ fp, FpOk X pins H3 b) → W 0 m0 H3 →
      PG (X.blk s3 H3 scope ce fp) tg g → PTs (X.blk s3 H3 scope ce fp) ifs tt → PE (X.blk s3 H3 scope ce fp) kx tk → PE (X.blk s3 H3 scope ce fp) vx tv →
      codeAny (model X.prog X.w) X.A (.compLoop (.DictComp kx vx [⟨tg, iter, ifs, 0⟩] scope pos) 0 (.ref it) (.ref s2.heap.objs.size) ce) (compPost (model X.prog X.w) X.A X.xe none (EP X pins σ Q) (.ref s2.heap.objs.size) s3.heap.objs.size) s4 := by
    intro ce H3 s4 hL J3 J4 st f3 ww pg pt pk pv
    have held : ∀ {σ' : L2.St} {H' : Hp} {s' : Shared}, Inv (X.blk s3 H3 scope ce fp) [] σ' H' s' → (∀ b ∈ fp, H' b = none) → ∀ b ∈ fp, FpOk (X.blk s3 H3 scope ce fp) [] H' b := by
      intro σ' H' s' I' hn b hb
      exact ⟨hn b hb, (I'.ok.exf b hb).1, I'.ok.exfs b hb, .inl hb, fun x c e => (I'.ok.exf b hb).2 x c e, fun p hp => by simp at hp⟩
    refine compLoop_anyD (fun n s' => ∃ i H', Inv (X.blk s3 H3 scope ce fp) [] (wipe σ (own.map (·.2))) H' s' ∧ tn i s'.heap ∧ (∀ b ∈ fp, H' b = none) ∧ W i n H') ?_ m0 ⟨0, H3, J4, st, fun b hb => (f3 b hb).1, ww⟩
    rintro n s5 ⟨i, H5, I5, t5, n5, w5⟩
    rcases turn i n H5 w5 with ⟨stop, qq⟩ | ⟨more, Nx, hNx, step⟩
    · refine thnF (T.done (X.blk s3 H3 scope ce fp) rfl rfl rfl calm i [] s5 _ H5 (fun _ _ => False) I5 (held I5 n5) t5 stop) fun r s6 ⟨hr, I6⟩ => ?_
      subst hr
      have I7 : Inv X pins σ H5 s6 := J3.call' (ch := fp) I6.os I6.base I6.hok I6.bare fun b hb => ⟨(f3 b hb).2.2.2.1, (f3 b hb).2.1, (f3 b hb).2.2.2.2.1, (f3 b hb).2.2.2.2.2⟩
      have gone : H5 s3.heap.objs.size = none := by rw [← hL]; exact I6.free
      obtain ⟨m, hn, _⟩ := I6.loc
      have hn : s6.heap.Ns ce.locals m := hn
      rw [hL] at hn
      obtain ⟨f0, f1, f2, f3', f4, f5⟩ := J3.fpOk (Nat.le_refl _) gone
      exact ⟨m, hn, fun h'' sb => ⟨.ref _, H5, I7.turned (t' := s6.toks) (fun b o hb e => (sb.2 b hb).trans e) f0 f1 f3' f4 f5, rfl, qq⟩⟩
    · refine thnF (T.item (X.blk s3 H3 scope ce fp) rfl rfl rfl calm i [] s5 _ H5 (fun _ _ => False) I5 (held I5 n5) t5 more) fun r s6 ⟨u, hr, h6⟩ => ?_
      subst hr
      refine thnF h6 fun _ s7 ⟨x, H7, I7, r7, y7, t7, n7⟩ => ?_
      refine thnF (pg.run _ s7 _ H7 x u _ (I7.pinned (held I7 n7) (T.obj _ _ t7)) r7 (step x H7 y7)) fun _ s8 ⟨σ8, H8, I8, e8, q8⟩ => ?_
      refine thnF (pt.run _ s8 σ8 H8 _ I8 q8) fun b s9 ⟨H9, I9, q9⟩ => ?_
      have close : ∀ {s' : Shared} {H' : Hp}, Inv (X.blk s3 H3 scope ce fp) ([] ++ pinsAt fp s7.heap) σ8 H' s' → Nx H' → ∃ m, m < n ∧ ∃ i H', Inv (X.blk s3 H3 scope ce fp) [] (wipe σ (own.map (·.2))) H' s' ∧ tn i s'.heap ∧ (∀ b ∈ fp, H' b = none) ∧ W i m H' := by
        intro s' H' I' nx
        obtain ⟨m', lt, w'⟩ := hNx H' nx
        have still : ∀ b ∈ fp, ∀ o, s7.heap.get? b = some o → s'.heap.get? b = some o ∧ H' b = none := by
          intro b hb o e
          have z := I'.pin (b, o) (List.mem_append_right _ (List.mem_append_right _ (mem_pinsAt hb e)))
          exact ⟨z.1, z.2.1⟩
        refine ⟨m', lt, i + 1, H', (I'.unpinned (pins := [])).weak (by rw [← e8, wipe_length]) ?_, T.keep _ _ _ t7 fun b hb o e => (still b hb o e).1, ?_, w'⟩
        · intro j v e
          rw [← e8] at e
          exact (wipe_some e).1
        · intro b hb
          obtain ⟨o, e, _⟩ := T.obj _ _ t7 b hb
          exact (still b hb o e).2
      cases b with
      | false => exact close I9 q9
      | true =>
        rw [if_pos rfl] at q9 ⊢
        refine thnF (pk.run _ s9 σ8 H9 _ I9 q9) fun kv s10 ⟨y, H10, I10, r10, q10⟩ => ?_
        refine thnF (pv.run _ s10 σ8 H10 _ I10 q10) fun vv s11 ⟨z, H11, I11, r11, q11⟩ => ?_
        exact thnF (way.put (X.blk s3 H3 scope ce fp) rfl rfl rfl rfl _ σ8 H11 s11 (fun _ _ => False) _ y z kv vv Nx I11 r10 r11 q11) fun _ s12 ⟨H12, I12, nx⟩ => close I12 nx
  have go4 := go _ _ _ rfl I3 I4 t4 free3 w0 (pgs _ _ _ _ _) (pts _ _ _ _ _) (pks _ _ _ _ _) (pvs _ _ _ _ _)
  exact codeAny_compStart_dict go4 (T.self X.A 0 _ _ _ t4 go4)
end

def rDN (B : Bs) : TDict := fun D y z H Nx => ∃ es k b, y = .ref b ∧ DNat B H D es ∧ KeyAt B H y k ∧ es.length < sizeLine ∧ Nx (upd H D (hoN B D (putN es k b z)))
theorem hoN_stay {B : Bs} {a : Addr} {es : List EN} {h1 h2 : Heap} : (es.length ≤ sizeLine ∧ (a == sysModules) = false ∧ (∀ e ∈ es, e.1.depth ≤ 8) ∧ ∃ xs : List (NestedKey × Addr × Value), PN es xs ∧ ∃ o es' ep, h1.get? a = some o ∧ o.ExactDict ∧ o.data = .dict es' ep ∧ es'.toList = xs.map (entryOfKey (nestedKind B.P B.w)) ∧ (xs.map (·.1)).Nodup) →
    (∀ o, h1.get? a = some o → h2.get? a = some o) → (es.length ≤ sizeLine ∧ (a == sysModules) = false ∧ (∀ e ∈ es, e.1.depth ≤ 8) ∧ ∃ xs : List (NestedKey × Addr × Value), PN es xs ∧ ∃ o es' ep, h2.get? a = some o ∧ o.ExactDict ∧ o.data = .dict es' ep ∧ es'.toList = xs.map (entryOfKey (nestedKind B.P B.w)) ∧ (xs.map (·.1)).Nodup) := fun φ k => by
  obtain ⟨q1, q2, q3, ys, q4, o', e1, e2, q5, q6⟩ := φ
  exact ⟨q1, q2, q3, ys, q4, o', e1, e2, k o' q5, q6⟩
theorem wayN {X : Cx} (hu : X.A.units + 64 < cLine) : DictWay X.prog X.w X.K X.A (fun D => hoN (Bx X) D []) (rDN (Bx X)) where
  new := fun H h big => by
    have g := Heap.get?_push_size h (o := { cls := .type "dict", data := .dict #[] }) rfl
    exact ⟨⟨Nat.zero_le _, beq_eq_false_iff_ne.mpr (Ne.symm (Nat.ne_of_lt big)), ⟨fun e h => absurd h (by simp), [], Paired.nil, _, #[], 0, g, ⟨rfl, rfl, rfl⟩, rfl, rfl, List.nodup_nil⟩⟩, ⟨_, g⟩, fun h1 h2 => hoN_stay⟩
  put := fun Y hP hw hK hA pins σ H s E D y z u r Nx I ry rz h => by
    have eB : Bx X = Bx Y := by unfold Bx; rw [hP, hw, hK]
    rw [eB] at h
    rw [← hP, ← hw, ← hA]
    rw [← hA] at hu
    obtain ⟨es, k, b, rfl, d, kk, hz, nx⟩ := h
    obtain ⟨k1, k2⟩ := key_at I kk ry
    cases ry
    obtain ⟨z1, hd, dp, xs, rel, dd⟩ := dn_of I d
    have hl : xs.length ≤ sizeLine := by rw [← Paired.length rel]; exact z1
    refine wpAny_dictSet_heap (knd := nestedKind Y.prog Y.w) (hsz := hl) (show Y.A.units + 8 < cLine by omega) ⟨k1, k2⟩ dd fun h' dd' hs => ?_
    obtain ⟨o, es', ep, g1, g2, g3, g4, _, g5⟩ := dd'
    have hlen := length_putN es k b z
    have dps : ∀ e ∈ putN es k b z, e.1.depth ≤ 8 := fun e he => by
      unfold putN at he
      split at he
      · obtain ⟨e0, he0, rfl⟩ := List.mem_map.mp he
        split
        · show e0.1.depth ≤ 8; exact dp e0 he0
        · exact dp e0 he0
      · rcases List.mem_append.mp he with he | he
        · exact dp e he
        · rw [List.mem_singleton] at he; subst he; exact k2
    exact ⟨upd H D (hoN (Bx Y) D (putN es k b z)), d_write (ob := hoN (Bx Y) D (putN es k b z)) I (by rw [d.at_]; exact True.intro) hs ⟨o, g1⟩ ⟨⟨by omega, hd, dps, _, rel.put k b rz, o, es', ep, g1, g2, g3, g4, g5⟩, ⟨o, g1⟩, fun h1 h2 => hoN_stay⟩, nx⟩
section
variable {α β : Type} [DecidableEq α] {ke : KeyEnc α} {ev : β → T} {c : Cn} {δ : List SV} {Post : List SV → SV → Prop} {tl tk tv : TE} {g : TG} {tt : TT} {vs : List Nat}
/-- {k: v for t in a list of data if ..} -/
theorem ev_dcL (ke : KeyEnc α) (ev : β → T) (h : EV c tl δ fun δ1 r => ∃ ts, Pu r (.d (.lst ts)) ∧ ts.length ≤ sizeLine ∧ ∃ I : Nat → List (α × β) → List SV → Prop, I 0 [] (wd δ1 vs) ∧
    (∀ i t m δ, ts[i]? = some t → I i m δ → GT c g (· ∈ vs) (.d t) (wd δ vs) fun δ2 => EVT c tt δ2 fun δ3 b => if b = true then EV c tk δ3 fun δ4 r => ∃ k, r = .d (ke.ek k) ∧ EV c tv δ4 fun δ5 r' => ∃ x, Pu r' (.d (ev x)) ∧ m.length < sizeLine ∧ I (i + 1) (putM m k x) (wd δ5 vs) else I (i + 1) m (wd δ3 vs)) ∧
    ∀ m δ, I ts.length m δ → ∀ p, Post δ (.own p (.N ke ev m))) : EV c (tDcG (fun D => hoN c.B D []) (rDN c.B) (iList c.B.K tl) g tt tk tv vs) δ Post := fun σ H ρ Q S q =>
  h σ H ρ _ S fun v H1 δ1 r ⟨ts, p, hz, I, h0, hs, hd⟩ S1 => by
    obtain ⟨F1, g1, S3⟩ := S1.put p
    have hv : DV c.B F1 v (.lst ts) := S3.last
    simp only [DV] at hv
    obtain ⟨a, xs, rfl, hx, hxs⟩ := hv
    refine ⟨a, rfl, ⟨xs, SqL.of (S3.fh _ _ hx)⟩, fun Dl hD => ?_⟩
    have hl := hxs.length
    have S4 : StF c F1 g1 σ H1 δ1 (ρ ++ [(V.ref a, SV.lv xs ts)]) := S3.drop.push ⟨a, rfl, SqL.of hx, hxs⟩
    obtain ⟨g', S5, e1, e2, e3⟩ := S4.newOwn (u := hoN c.B Dl []) hD
    have S6 := ((S5.retag (l := .tmp (ρ ++ [(V.ref a, SV.lv xs ts)]).length) e1).push (p := (.ref Dl, .own Dl (.N ke ev ([] : List (α × β))))) ⟨rfl, if_pos rfl, e3, [], upd_same, rfl, .nil, .nil⟩).unwipe (vs := vs) rfl
    refine ⟨fun i n H => n = ts.length - i ∧ i ≤ ts.length ∧ ∃ m δ, I i m δ ∧ St c σ H δ ((ρ ++ [(V.ref a, SV.lv xs ts)]) ++ [(.ref Dl, .own Dl (.N ke ev m))]), ⟨ts.length, by simp, Nat.zero_le _, [], _, h0, F1, _, S6⟩, ?_⟩
    rintro i n H2 ⟨rfl, hi, m, δ2, k, F2, gg, S7⟩
    obtain ⟨b, e, hx2, hxs2⟩ := id S7.drop.last
    cases e
    by_cases hlt : i < ts.length
    · have hlx : i < xs.length := by omega
      refine .inr ⟨⟨xs, xs[i], S7.fh.sql hx2, by simp [hlx]⟩, fun H => ∃ m δ, I (i + 1) m δ ∧ St c σ H δ ((ρ ++ [(V.ref a, SV.lv xs ts)]) ++ [(.ref Dl, .own Dl (.N ke ev m))]), fun H' ⟨m, δ, k, S⟩ => ⟨ts.length - (i + 1), by omega, rfl, hlt, m, δ, k, S⟩, fun x H' y => ?_⟩
      obtain ⟨e, y⟩ := y
      subst e
      have hxi := y xs (S7.fh.sql hx2)
      obtain ⟨t, ht, hxt⟩ := hxs2.get' hxi
      refine hs i t m δ2 ht k x (wipe σ vs) _ _ _ ⟨F2, gg, S7.wipe vs, hxt⟩ fun σ3 H3 δ3 k3 S8 o => ?_
      have ew : wipe σ3 vs = wipe σ vs := (wipe_only o).trans (wipe_wipe σ vs)
      refine ⟨ew, k3 σ3 H3 _ _ S8 fun bb H4 δ4 k4 S9 => ?_⟩
      cases bb with
      | false =>
        obtain ⟨F4, g4, S9⟩ := S9
        exact ⟨m, _, k4, F4, g4, S9.unwipe ew⟩
      | true =>
        rw [if_pos rfl] at k4 ⊢
        refine k4 σ3 H4 _ _ S9 fun y4 H5 δ5 r5 ⟨kk, e5, k5⟩ S10 => ?_
        subst e5
        refine k5 σ3 H5 _ _ S10.push fun z5 H6 δ6 r6 ⟨x6, p6, hz6, k6⟩ S11 => ?_
        obtain ⟨F6, g6, S12⟩ := S11.put p6
        have hz6' : DV c.B F6 z5 (ev x6) := S12.last
        have hy6 : DV c.B F6 y4 (ke.ek kk) := S12.drop.last
        have S13 := S12.drop.drop
        obtain ⟨_, q1, q2, q3⟩ := S13.last
        unfold OW.N at q3
        obtain ⟨es, h1, h2, h3, h4⟩ := q3
        have na : NAt c.B F6 H6 Dl ke ev m es := .of S13.fh h1 h2 h3 h4
        have el : es.length = m.length := by have := congrArg List.length na.k; simpa using this
        obtain ⟨⟨bb, rfl⟩, kat⟩ := key_ok S13.fh hy6
        obtain ⟨w1, w2, w3⟩ := put_at (y := z5) (b := bb) (k := kk) na.k na.r na.v hy6 hz6'
        exact ⟨es, _, bb, rfl, na.d, kat, by rw [el]; exact hz6, putM m kk x6, _, k6, F6, g6, (S13.updT (o' := .N ke ev (putM m kk x6)) (u := hoN c.B Dl (putN es (ke.en kk) bb z5)) ⟨_, upd_same, by rw [nks_map, w1], w2, w3⟩).unwipe ew⟩
    · have e : i = ts.length := by omega
      subst e
      refine .inl ⟨⟨xs, S7.fh.sql hx2, by omega⟩, ?_⟩
      obtain ⟨_, q1, q2, q3⟩ := S7.last
      have S0 := S7.drop
      have top : St1 c σ H2 δ2 (ρ ++ [(V.ref a, SV.lv xs ts)]) (.ref Dl) (.own Dl (.N ke ev m)) := by
        refine ⟨F2, fun b => if b = Dl then some .top else gg b, ⟨S0.fh, S0.f0, S0.fn, S0.h0, S0.len, fun i s e => (S0.sl i s e).at Dl (by rw [q1]; intro z; cases z), fun n q e => (S0.tm n q e).at Dl (fun z => ?_), fun b l' e => ?_, S0.an⟩, rfl, if_pos rfl, q2, q3⟩
        · rw [q1] at z
          injection z with z; injection z with z
          have := (List.getElem?_eq_some_iff.mp e).1
          omega
        · by_cases w : b = Dl
          · rw [w]; exact S0.gn Dl _ q1
          · rw [if_neg w] at e; exact S0.gn b l' e
      obtain ⟨F9, g9, S9, t9⟩ := top
      exact q _ H2 δ2 _ (hd m δ2 k Dl) ⟨F9, g9, S9.drop, t9⟩
end
end DL

namespace DL
open PySem L2

section
variable {c : Cn} {δ : List SV} {Post : List SV → SV → Prop} {s : SV} {ts : List T}
/-! ### slices -/
abbrev RSl := V → Option Int → Option Int → Hp → VK → Prop
def orSl (f g : RSl) : RSl := fun x lo hi H Q => f x lo hi H Q ∨ g x lo hi H Q
def uSl (B : Bs) : RSl := orSl (rSlL B.K) (orSl (rSlT B.K) rSlS)
theorem sl_u {X : Cx} : SlR X (uSl (Bx X)) := sl_list.or (sl_tup.or sl_str)
def EVO (c : Cn) (to : TO) (δ : List SV) (P : List SV → Option Int → Prop) : Prop := ∀ σ H ρ Q, St c σ H δ ρ → (∀ o H' δ', P δ' o → St c σ H' δ' ρ → Q o H') → to σ H Q
def OPS (c : Cn) (f : RSl) (δ : List SV) (s : SV) (lo hi : Option Int) (Post : List SV → SV → Prop) : Prop := ∀ σ H ρ x Q, St c σ H δ (ρ ++ [(x, s)]) → (∀ v H' δ' r, Post δ' r → St1 c σ H' δ' ρ v r → Q v H') → f x lo hi H Q
theorem eo_none {P : List SV → Option Int → Prop} (k : P δ none) : EVO c tNoPart δ P := fun σ H ρ Q S q => q none H δ k S
theorem eo_some {te : TE} {P : List SV → Option Int → Prop} (h : EV c te δ fun δ1 r => ∃ i : Int, r = .d (.int i) ∧ P δ1 (some i)) : EVO c (tPart te) δ P := fun σ H ρ Q S q => h σ H ρ _ S fun v H' δ' r ⟨i, e, k⟩ S1 => by
  subst e
  obtain ⟨F, g, S1, hv⟩ := S1
  exact ⟨i, DV.int_ (B := c.B) (F := F) hv, q _ H' δ' k ⟨F, g, S1⟩⟩
theorem ev_sl {te : TE} {tl th : TO} {f : RSl} (h : EV c te δ fun δ1 r => ∃ s1, Pu r s1 ∧ EVO c tl δ1 fun δ2 lo => EVO c th δ2 fun δ3 hi => OPS c f δ3 s1 lo hi Post) : EV c (tSl f te tl th) δ Post := fun σ H ρ Q S q =>
  h σ H ρ _ S fun x H1 δ1 r ⟨s1, p, k⟩ S1 => k σ H1 _ _ (S1.put p) fun lo H2 δ2 k2 S2 => k2 σ H2 _ _ S2 fun hi H3 δ3 k3 S3 => k3 σ H3 ρ x Q S3 q
def cutG {α : Type} (xs : List α) (lo hi : Option Int) : List α := (xs.drop (HT.sIx xs.length 0 lo)).take (HT.sIx xs.length xs.length hi - HT.sIx xs.length 0 lo)
theorem DVs.cut {B : Bs} {F : Hp} {xs : List V} {ts : List T} (h : DVs B F xs ts) (lo hi : Option Int) : DVs B F (cutV xs lo hi) (cutG ts lo hi) := by
  unfold cutV cutG
  rw [h.length]
  exact (h.drop _).take _
theorem os_L {lo hi : Option Int} (l : LstV δ s ts) (k : ∀ p, Post δ (.own p (.lst (cutG ts lo hi)))) : OPS c (uSl c.B) δ s lo hi Post := fun σ H ρ x Q S q => by
  obtain ⟨F, g, S2, h⟩ := S.top1
  obtain ⟨a, xs, rfl, ha, dv⟩ := l.at S2 h
  exact .inl ⟨a, xs, rfl, SqL.of ha, fun p hp => q _ _ δ _ (k p) (S2.newLst hp (dv.cut lo hi))⟩
theorem os_T {lo hi : Option Int} (hn : ¬ (HT.sIx ts.length 0 lo = 0 ∧ HT.sIx ts.length ts.length hi = ts.length)) (k : Post δ (.d (.tup (cutG ts lo hi)))) : OPS c (uSl c.B) δ (.d (.tup ts)) lo hi Post := fun σ H ρ x Q S q => by
  obtain ⟨F, g, S2, h⟩ := S.top1
  obtain ⟨a, xs, rfl, ha, dv⟩ := S2.tup h
  refine .inr (.inl ⟨a, xs, rfl, ha, by rw [dv.length]; exact hn, fun p hp => ?_⟩)
  obtain ⟨S3, e3⟩ := S2.newTup (u := .tup (cutV xs lo hi)) hp
  exact q _ _ δ _ k ⟨_, g, S3, DV.tup_ (SqT.of upd_same) (DVs.mono e3 _ _ (dv.cut lo hi))⟩
theorem os_S {z : Str} {lo hi : Option Int} (hz : z.length ≤ sizeLine) (k : Post δ (.d (.str (cutS z lo hi)))) : OPS c (uSl c.B) δ (.d (.str z)) lo hi Post := fun σ H ρ x Q S q => by
  obtain ⟨F, g, S2, h⟩ := S.top1
  exact .inr (.inr ⟨z, DV.str_ (B := c.B) (F := F) h, hz, q _ _ δ _ k (St.flat ⟨F, g, S2⟩ (t := .str (cutS z lo hi)) rfl)⟩)
/-! ### list(xs), tuple(xs) -/
def rList1 (B : Bs) : List V → Hp → VK → Prop := fun xs H Q => ∃ p ys, xs = [.ref p] ∧ (SqL B.K H p ys ∨ SqT B.K H p ys) ∧ ∀ l, H l = none → Q (.ref l) (upd H l (.lst ys))
def rTuple1 (B : Bs) : List V → Hp → VK → Prop := fun xs H Q => ∃ p ys, xs = [.ref p] ∧ ((SqL B.K H p ys ∧ ∀ l, H l = none → Q (.ref l) (upd H l (.tup ys))) ∨ (SqT B.K H p ys ∧ Q (.ref p) H))
theorem call_list' {X : Cx} : CallR X (.type "list") (rList1 (Bx X)) := call_list_of
theorem call_tuple' {X : Cx} : CallR X (.type "tuple") (rTuple1 (Bx X)) := call_tuple_of
theorem oa_list (l : LstV δ s ts) (k : ∀ p, Post δ (.own p (.lst ts))) : OPA c (rList1 c.B) δ [s] Post := fun σ H ρ vs Q hl S q => by
  obtain ⟨v, rfl, S⟩ := S.arg1 hl
  obtain ⟨F, g, S2, h⟩ := S.top1
  obtain ⟨a, xs, rfl, ha, dv⟩ := l.at S2 h
  exact ⟨a, xs, rfl, .inl (SqL.of ha), fun p hp => q _ _ δ _ (k p) (S2.newLst hp dv)⟩
theorem oa_tuple (l : LstV δ s ts) (k : Post δ (.d (.tup ts))) : OPA c (rTuple1 c.B) δ [s] Post := fun σ H ρ vs Q hl S q => by
  obtain ⟨v, rfl, S⟩ := S.arg1 hl
  obtain ⟨F, g, S2, h⟩ := S.top1
  obtain ⟨a, xs, rfl, ha, dv⟩ := l.at S2 h
  refine ⟨a, xs, rfl, .inl ⟨SqL.of ha, fun p hp => ?_⟩⟩
  obtain ⟨S3, e3⟩ := S2.newTup (u := .tup xs) hp
  exact q _ _ δ _ k ⟨_, g, S3, DV.tup_ (SqT.of upd_same) (DVs.mono e3 _ _ dv)⟩
/-! ### max, all, any, join of a list -/
theorem dv_ints {B : Bs} {F : Hp} : ∀ {ns : List Int} {vs : List V}, DVs B F vs (ns.map T.int) → vs = ns.map V.int
  | [], _, h => by simp only [List.map_nil, DVs] at h; exact h
  | n :: ns, _, h => by
    rw [List.map_cons] at h
    simp only [DVs] at h
    obtain ⟨v, r, rfl, h1, h2⟩ := h
    rw [DV.int_ h1, dv_ints h2, List.map_cons]
theorem dv_bls {B : Bs} {F : Hp} : ∀ {ns : List Bool} {vs : List V}, DVs B F vs (ns.map T.bl) → vs = ns.map V.bl
  | [], _, h => by simp only [List.map_nil, DVs] at h; exact h
  | n :: ns, _, h => by
    rw [List.map_cons] at h
    simp only [DVs] at h
    obtain ⟨v, r, rfl, h1, h2⟩ := h
    rw [DV.bl_ h1, dv_bls h2, List.map_cons]
theorem dv_strs {B : Bs} {F : Hp} : ∀ {ns : List Str} {vs : List V}, DVs B F vs (ns.map T.str) → vs = ns.map V.str
  | [], _, h => by simp only [List.map_nil, DVs] at h; exact h
  | n :: ns, _, h => by
    rw [List.map_cons] at h
    simp only [DVs] at h
    obtain ⟨v, r, rfl, h1, h2⟩ := h
    rw [DV.str_ h1, dv_strs h2, List.map_cons]
theorem call_max1' {X : Cx} (hc : X.calm = true) : CallR X (.builtin "max") (rMax X.K) := cr_max hc
theorem call_min1' {X : Cx} (hc : X.calm = true) : CallR X (.builtin "min") (rMin X.K) := cr_min hc
theorem call_all' {X : Cx} (hc : X.calm = true) : CallR X (.builtin "all") (rAll X.K) := cr_all hc
theorem call_any' {X : Cx} (hc : X.calm = true) : CallR X (.builtin "any") (rAny X.K) := cr_any hc
theorem oa_max {ns : List Int} (l : LstV δ s (ns.map T.int)) (h0 : 0 < ns.length) (k : ∀ m, m ∈ ns → (∀ y, y ∈ ns → y ≤ m) → Post δ (.d (.int m))) : OPA c (rMax c.B.K) δ [s] Post := fun σ H ρ vs Q hl S q => by
  obtain ⟨v, rfl, S⟩ := S.arg1 hl
  obtain ⟨F, g, S2, h⟩ := S.top1
  obtain ⟨a, xs, rfl, ha, dv⟩ := l.at S2 h
  rw [dv_ints dv] at ha
  exact ⟨a, ns, rfl, SqL.of ha, h0, fun m h1 h2 => q _ _ δ _ (k m h1 h2) (St.flat ⟨F, g, S2⟩ (t := .int m) rfl)⟩
theorem oa_all {bs : List Bool} (l : LstV δ s (bs.map T.bl)) (k : Post δ (.d (.bl (bs.all id)))) : OPA c (rAll c.B.K) δ [s] Post := fun σ H ρ vs Q hl S q => by
  obtain ⟨v, rfl, S⟩ := S.arg1 hl
  obtain ⟨F, g, S2, h⟩ := S.top1
  obtain ⟨a, xs, rfl, ha, dv⟩ := l.at S2 h
  rw [dv_bls dv] at ha
  exact ⟨a, bs, rfl, SqL.of ha, q _ _ δ _ k (St.flat ⟨F, g, S2⟩ (t := .bl (bs.all id)) rfl)⟩
theorem oa_any {bs : List Bool} (l : LstV δ s (bs.map T.bl)) (k : Post δ (.d (.bl (bs.any id)))) : OPA c (rAny c.B.K) δ [s] Post := fun σ H ρ vs Q hl S q => by
  obtain ⟨v, rfl, S⟩ := S.arg1 hl
  obtain ⟨F, g, S2, h⟩ := S.top1
  obtain ⟨a, xs, rfl, ha, dv⟩ := l.at S2 h
  rw [dv_bls dv] at ha
  exact ⟨a, bs, rfl, SqL.of ha, q _ _ δ _ k (St.flat ⟨F, g, S2⟩ (t := .bl (bs.any id)) rfl)⟩
def rJoin1 (B : Bs) : V → List V → Hp → VK → Prop := fun x xs H Q => ∃ a p, ∃ ys : List Str, x = .str a ∧ xs = [.ref p] ∧ (SqL B.K H p (ys.map V.str) ∨ SqT B.K H p (ys.map V.str)) ∧ (ys.map (·.length)).sum + ys.length * a.length ≤ 16777216 ∧ Q (.str (Txt.join a ys)) H
theorem mt_join' {X : Cx} : MtR X "str.join" (rJoin1 (Bx X)) := mt_join
theorem ev_join {ta te : TE} (h : EV c ta δ fun δ1 r => ∃ a : Str, r = .d (.str a) ∧ EV c te δ1 fun δ2 r2 => ∃ s2, Pu r2 s2 ∧ ∃ ys : List Str, LstV δ2 s2 (ys.map T.str) ∧ (ys.map (·.length)).sum + ys.length * a.length ≤ 16777216 ∧ Post δ2 (.d (.str (Txt.join a ys)))) :
    EV c (tBM c.B.K "str" (rJoin1 c.B) ta (tCons te tNil)) δ Post := fun σ H ρ Q S q => h σ H ρ _ S fun v H1 δ1 r ⟨a, e, k⟩ S1 => by
  subst e
  obtain ⟨F1, g1, S1, hv⟩ := S1
  have hv : v = .str a := DV.str_ (B := c.B) (F := F1) hv
  subst hv
  refine ⟨rfl, k σ H1 ρ _ ⟨F1, g1, S1⟩ fun y H2 δ2 r2 ⟨s2, p, ys, l, hz, k2⟩ S2 => ?_⟩
  obtain ⟨F, g, S3, h⟩ := (S2.put p).top1
  obtain ⟨b, xs, rfl, hb, dv⟩ := l.at S3 h
  rw [dv_strs dv] at hb
  exact ⟨a, b, ys, rfl, rfl, .inl (SqL.of hb), hz, q _ _ δ2 _ k2 (St.flat ⟨F, g, S3⟩ (t := .str (Txt.join a ys)) rfl)⟩
/-! ### truth -/
inductive TruT (δ : List SV) : SV → Bool → Prop
  | non : TruT δ (.d .non) false
  | bl (b : Bool) : TruT δ (.d (.bl b)) b
  | int (i : Int) : TruT δ (.d (.int i)) (i != 0)
  | lst {s : SV} {ts : List T} (l : LstV δ s ts) : TruT δ s (!ts.isEmpty)
theorem et_truth {te : TE} {K : PySem.W.Frag} {P : List SV → Bool → Prop} (h : EV c te δ fun δ1 r => ∃ s1, Pu r s1 ∧ ∃ b, TruT δ1 s1 b ∧ P δ1 b) : EVT c (fun σ H Q => te σ H fun x H' => ∃ k, TruV K x H' k ∧ Q k H') δ P := fun σ H ρ Q S q => h σ H ρ _ S fun v H1 δ1 r ⟨s1, p, b, t, k⟩ S1 => by
  obtain ⟨F, g, S2, hv⟩ := (S1.put p).top1
  refine ⟨b, ?_, q b H1 δ1 k ⟨F, g, S2⟩⟩
  cases t with
  | non => rw [show v = .non from DV.non_ (B := c.B) (F := F) hv]; rfl
  | bl b => rw [show v = .bl b from DV.bl_ (B := c.B) (F := F) hv]; rfl
  | int i => rw [show v = .int i from DV.int_ (B := c.B) (F := F) hv]; rfl
  | @lst _ ts l =>
    obtain ⟨a, xs, rfl, ha, dv⟩ := l.at S2 hv
    refine .inl ⟨xs, SqL.of ha, ?_⟩
    have := dv.length
    cases xs <;> cases ts <;> simp_all
/-! ### isinstance with a class -/
theorem oa_isi {t : T} {tv : Value} {cl : V} {u : Value} {b : Bool} (hc : ClsV cl u) (ht : ∀ F H v, Ex F H → DV c.B F v t → TyX c.B.K H v tv) (hk : PySem.W.kitOne c.B.K tv u = some b) (k : Post δ (.d (.bl b))) : OPA c (rIsi c.B.K) δ [.d t, .d (.raw cl)] Post := fun σ H ρ vs Q hl S q => by
  obtain ⟨v, v', e, S1⟩ := S.arg2 hl
  subst e
  obtain ⟨F, g, S2, h1, h2⟩ := S1.top2
  have h2 : DV c.B F v' (.raw cl) := h2
  simp only [DV] at h2
  subst h2
  exact ⟨v, v', tv, u, b, rfl, hc, ht F H v S2.fh h1, hk, q _ _ δ _ k (St.flat ⟨F, g, S2⟩ (t := .bl b) rfl)⟩
/-! ### fields -/
theorem ev_fld {ta : TE} {f : Str} {C : Addr} {ns : List Str} {us : List T} {t : T} (hc : Cls c.B.K C) (hn : NoAttr c.B.K C f) (h : EV c ta δ fun δ1 r => r = .d (.obj C ns us) ∧ (ns.zip us).lookup f = some t ∧ Post δ1 (.d t)) : EV c (tFld c.B.K ta f) δ Post := fun σ H ρ Q S q => h σ H ρ _ S fun v H1 δ1 r ⟨e, hl, k⟩ S1 => by
  subst e
  obtain ⟨F, g, S2, hv⟩ := S1
  have hv : DV c.B F v (.obj C ns us) := hv
  simp only [DV] at hv
  obtain ⟨a, dx, fs, rfl, ha, hns, hd⟩ := hv
  have look : ∀ {fs : List (Str × V)} {us : List T}, DVs c.B F (fs.map (·.2)) us → ((fs.map (·.1)).zip us).lookup f = some t → ∃ v, fs.lookup f = some v ∧ DV c.B F v t := by
    intro fs
    induction fs with
    | nil => intro us _ h; simp at h
    | cons p fs ih =>
      intro us hd h
      cases us with
      | nil => simp at h
      | cons u us =>
        rw [List.map_cons] at hd h
        rw [List.zip_cons_cons] at h
        obtain ⟨d1, d2⟩ := hd.uncons
        rw [List.lookup_cons] at h
        obtain ⟨pn, pv⟩ := p
        rw [List.lookup_cons]
        cases z : f == pn with
        | true => rw [z] at h; injection h with h; subst h; exact ⟨pv, rfl, d1⟩
        | false => rw [z] at h; exact ih d2 h
  rw [← hns] at hl
  obtain ⟨v, e, dv⟩ := look hd hl
  exact ⟨a, C, dx, fs, v, rfl, S2.fh _ _ ha, hc, hn, e, q _ _ δ1 _ k ⟨F, g, S2, dv⟩⟩
/-- self.f = e in an __init__ -/
theorem es_fld0 {ta te : TE} {f : Str} {C dx : Addr} {R : DEnds} (hc : Cls c.B.K C) (hn : NoAttr c.B.K C f) (h : EV c te δ fun δ1 r => ∃ t, Pu r (.d t) ∧ EV c ta δ1 fun δ2 r2 => ∃ a, r2 = .ptr a ∧ ∃ j : Nat, δ2[j]? = some (SV.arg a (.ins C dx [] [])) ∧ R.nx (δ2.set j (.arg a (.ins C dx [f] [t])))) : ES c (sFld c.B.K ta te f) δ R := fun σ H ρ D S M =>
  h σ H ρ _ S fun y H1 δ1 r ⟨t, p, k⟩ S1 => k σ H1 _ _ (S1.put p) fun o H2 δ2 r2 ⟨a, e2, j, hj, k2⟩ S2 => by
    subst e2
    obtain ⟨F, g, S3, e⟩ := S2
    have e : o = .ref a := e
    subst e
    have hy : DV c.B F y t := S3.last
    have S4 := S3.drop
    obtain ⟨_, _, _, fs, ha, hns, hd⟩ := S4.sl j _ hj
    have e0 : fs = [] := by simpa using hns
    subst e0
    exact ⟨a, C, dx, [], rfl, ha, hc, hn, by decide, M.nx _ _ _ k2 ⟨F, g, S4.updA hj ⟨[(f, y)], upd_same, rfl, .cons hy .nil⟩⟩⟩
/-- C(..): made, and frozen -/
theorem ev_make {S : OW → List T → (OW → RT → Prop) → Prop} {C : Addr} {ta : TA} {E : XK} (h : EVA c ta δ fun δ1 rs => ∃ ts, rs = ts.map .d ∧ ∀ dx, ∃ P : OW → RT → Prop, S (.ins C dx [] []) ts P ∧ ∀ o r, P o r → ∃ ns us, o = .ins C dx ns us ∧ r = .d .non ∧ Post δ1 (.d (.obj C ns us))) : EV c (tMake C (spM c.B S) [] E ta) δ Post := fun σ H ρ Q S0 q =>
  h σ H ρ _ S0 fun vs H1 δ1 rs ⟨ts, e, k⟩ hl S1 => by
    subst e
    obtain ⟨F, g, S2, hd⟩ := S1.args hl
    intro x dx hx hdx hne
    obtain ⟨P, hS, k⟩ := k dx
    have hxd : x ≠ dx := hne.symm
    have ext : Ex H1 (upd (upd H1 dx (.own x)) x (.ins C dx [])) := fun b o e => by
      rw [upd_ne (ne_of_none e hx), upd_ne (ne_of_none e hdx)]; exact e
    have hF : F x = none := S2.fh.fresh hx
    refine ⟨F, x, vs, .ins C dx [] [], ts, by rw [List.append_nil], S2.fh.trans ext, hF, ⟨[], upd_same, rfl, .nil⟩, hd, P, hS, fun o r v H' F' hp A => ?_⟩
    obtain ⟨ns, us, rfl, rfl, k2⟩ := k o r hp
    have hr := A.res
    refine ⟨DV.non_ (B := c.B) (F := F') hr, ?_⟩
    obtain ⟨fs, h1, h2, h3⟩ := A.lst
    have fx : F' x = none := by rw [A.fn x _ upd_same]; exact hF
    have S3 := S2.grow (H' := H') (F' := upd F' x (.ins C dx fs)) (fun a o e => A.eh a o (ne_of_none e hx) (ext a o e)) (A.ef.trans (Ex.new fx)) (A.fh.in1 h1) (fun a o e => by rw [upd_ne (ne_of_none e hx)]; exact A.fn a o (ext a o e))
    refine q _ H' δ1 _ k2 ⟨_, g, S3, ?_⟩
    show DV c.B _ (.ref x) (.obj C ns us)
    simp only [DV]
    exact ⟨x, dx, fs, rfl, upd_same, h2, DVs.mono (Ex.new fx) _ _ h3⟩
end
end DL

namespace DL
open PySem L2

/-! ### rows that are never reached -/
theorem ps_never {X : Cx} {s : Stmt} : PS X s (fun _ _ _ => False) := ⟨fun _ _ _ _ _ _ h => h.elim⟩
theorem pss_never {X : Cx} {s : List Stmt} : PSs X s (fun _ _ _ => False) := ⟨fun _ _ _ _ _ _ h => h.elim⟩
theorem pe_never {X : Cx} {s : Expr} : PE X s (fun _ _ _ => False) := ⟨fun _ _ _ _ _ _ h => h.elim⟩
section
variable {c : Cn} {δ : List SV} {Post : List SV → SV → Prop} {ta tb tc : TE}
/-! ### a op b op c -/
theorem ev_chain {f f' : R2} (h : EV c ta δ fun δ1 r1 => ∃ s1, Pu r1 s1 ∧ EV c tb δ1 fun δ2 r2 => ∃ t2, r2 = .d t2 ∧ ∃ F2 : List SV → SV → Prop, OP2 c f δ2 s1 (.d t2) F2 ∧
    (∀ δ3 r, F2 δ3 r → ∃ b, r = .d (.bl b) ∧ δ3 = δ2 ∧ if b = true then EV c tc δ2 fun δ4 r4 => ∃ s4, Pu r4 s4 ∧ OP2 c f' δ4 (.d t2) s4 Post else Post δ2 (.d (.bl false)))) : EV c (tChain f f' ta tb tc) δ Post := fun σ H ρ Q S q =>
  h σ H ρ _ S fun x H1 δ1 r1 ⟨s1, p1, k1⟩ S1 => k1 σ H1 _ _ (S1.put p1) fun y H2 δ2 r2 ⟨t2, e2, F2, ho, k2⟩ S2 => by
    subst e2
    -- y stands below and on top
    obtain ⟨F, g, S2, hy⟩ := S2
    have hy : DV c.B F y t2 := hy
    have S3 : St c σ H2 δ2 ((ρ ++ [(y, .d t2)]) ++ [(x, s1)] ++ [(y, .d t2)]) := by
      obtain ⟨S4, hx⟩ : StF c F g σ H2 δ2 ρ ∧ TempOk c F g H2 ρ.length (x, s1) := ⟨S2.drop, S2.last⟩
      have hyT : ∀ n, TempOk c F g H2 n (y, SV.d t2) := fun _ => hy
      cases p1 with
      | d => exact ⟨F, g, ((S4.push (hyT _)).push (show TempOk c F g H2 _ (x, SV.d _) from hx)).push (hyT _)⟩
      | ptr => exact ⟨F, g, ((S4.push (hyT _)).push (show TempOk c F g H2 _ (x, SV.ptr _) from hx)).push (hyT _)⟩
      | no => exact ⟨F, g, ((S4.push (hyT _)).push (show TempOk c F g H2 _ (x, SV.no) from trivial)).push (hyT _)⟩
      | fr => exact ⟨F, g, ((S4.push (hyT _)).push (show TempOk c F g H2 _ (x, SV.d _) from hx)).push (hyT _)⟩
      | frO _ => exact ⟨F, g, ((S4.push (hyT _)).push (show TempOk c F g H2 _ (x, SV.d _) from hx)).push (hyT _)⟩
    refine ho σ H2 (ρ ++ [(y, .d t2)]) x y _ S3 fun v H3 δ3 r k S5 => ?_
    obtain ⟨b, e, e3, k3⟩ := k2 δ3 r k
    subst e; subst e3
    obtain ⟨F5, g5, S5, hv⟩ := S5
    refine ⟨b, DV.bl_ (B := c.B) (F := F5) hv, ?_⟩
    cases b with
    | false => exact q _ H3 δ3 _ k3 (St.flat ⟨F5, g5, S5.drop⟩ rfl)
    | true =>
      have k3 : EV c tc δ3 fun δ4 r4 => ∃ s4, Pu r4 s4 ∧ OP2 c f' δ4 (.d t2) s4 Post := k3
      exact k3 σ H3 _ _ ⟨F5, g5, S5⟩ fun z H4 δ4 r4 ⟨s4, p4, k4⟩ S6 => k4 σ H4 ρ y z Q (S6.put p4) q
/-! ### a, b = x, y -/
theorem St.two {σ : L2.St} {H : Hp} {ρ : List (V × SV)} {v w : V} {t u : T} (S : St c σ H δ (ρ ++ [v, w].zip [SV.d t, SV.d u])) : ∃ F g, StF c F g σ H δ ρ ∧ DV c.B F v t ∧ DV c.B F w u := by
  obtain ⟨F, g, S, hd⟩ := S.args (ts := [t, u]) rfl
  obtain ⟨h1, hd⟩ := hd.uncons
  obtain ⟨h2, _⟩ := hd.uncons
  exact ⟨F, g, S, h1, h2⟩
theorem es_parD {i j : Nat} {ta : TA} {R : DEnds} (h : EVA c ta δ fun δ1 rs => ∃ t u, rs = [SV.d t, SV.d u] ∧ R.nx ((δ1.set i (.d t)).set j (.d u))) : ES c (tPar i j ta) δ R := fun σ H ρ D S M =>
  h σ H ρ _ S fun vs H1 δ1 rs ⟨t, u, e, k⟩ hl S1 => by
    subst e
    match vs, hl, S1 with
    | [v, w], hl, S1 =>
      obtain ⟨F, g, S2, h1, h2⟩ := S1.two
      refine ⟨v, w, rfl, M.nx _ _ _ k ?_⟩
      have S3 : St c (σ.set i (some v)) H1 (δ1.set i (.d t)) (ρ ++ [(w, .d u)]) := St1.store ⟨F, g, S2.push h2, h1⟩
      obtain ⟨F3, g3, S3⟩ := S3
      exact St1.store ⟨F3, g3, S3.drop, S3.last⟩
theorem es_par3 {i j l : Nat} {ta : TA} {R : DEnds} (h : EVA c ta δ fun δ1 rs => ∃ t u x, rs = [SV.d t, SV.d u, SV.d x] ∧ R.nx (((δ1.set i (.d t)).set j (.d u)).set l (.d x))) : ES c (tPar3 i j l ta) δ R := fun σ H ρ D S M =>
  h σ H ρ _ S fun vs H1 δ1 rs ⟨t, u, x, e, k⟩ hl S1 => by
    subst e
    match vs, hl, S1 with
    | [v, w, y], hl, S1 =>
      obtain ⟨F, g, S2, hd⟩ := S1.args (ts := [t, u, x]) rfl
      obtain ⟨h1, hd⟩ := hd.uncons
      obtain ⟨h2, hd⟩ := hd.uncons
      obtain ⟨h3, _⟩ := hd.uncons
      refine ⟨v, w, y, rfl, M.nx _ _ _ k ?_⟩
      have S3 : St c (σ.set i (some v)) H1 (δ1.set i (.d t)) ((ρ ++ [(y, .d x)]) ++ [(w, .d u)]) := St1.store ⟨F, g, (S2.push (show TempOk c F g H1 _ (y, SV.d x) from h3)).push (show TempOk c F g H1 _ (w, SV.d u) from h2), h1⟩
      obtain ⟨F3, g3, S3⟩ := S3
      have S4 : St c ((σ.set i (some v)).set j (some w)) H1 ((δ1.set i (.d t)).set j (.d u)) (ρ ++ [(y, .d x)]) := St1.store ⟨F3, g3, S3.drop, S3.last⟩
      obtain ⟨F4, g4, S4⟩ := S4
      exact St1.store ⟨F4, g4, S4.drop, S4.last⟩
/-- is True / is False -/
theorem op_isBl' {X : Cx} : OpR X (compareOp .Is) (fun x y H Q => ∃ a b, x = .bl a ∧ y = .bl b ∧ Q (.bl (decide (a = b))) H) := op_is_bl
theorem o2_isB {a b : Bool} (k : Post δ (.d (.bl (decide (a = b))))) : OP2 c (fun x y H Q => ∃ a b, x = .bl a ∧ y = .bl b ∧ Q (.bl (decide (a = b))) H) δ (.d (.bl a)) (.d (.bl b)) Post := fun σ H ρ x y Q S q => by
  obtain ⟨F, g, S, h1, h2⟩ := S.top2
  exact ⟨a, b, DV.bl_ (B := c.B) (F := F) h1, DV.bl_ (B := c.B) (F := F) h2, q _ H δ _ k (St.flat ⟨F, g, S⟩ rfl)⟩
end
end DL

namespace DL
open PySem L2

/-! ### what is gone through, whatever it is -/
structure DIt (c : Cn) (J : It) (ρ : List (V × SV)) (O : List SV → Prop) (ts : List T) : Prop where
  go : ∀ {i : Nat} {σ : L2.St} {H : Hp} {δ : List SV} {ρ' : List (V × SV)}, i < ts.length → O δ → St c σ H δ (ρ ++ ρ') → J.go i H
  yld : ∀ {i : Nat} {σ : L2.St} {H H' : Hp} {δ : List SV} {ρ' : List (V × SV)} {x : V}, i < ts.length → O δ → St c σ H δ (ρ ++ ρ') → J.yld i H x H' → ∃ t, ts[i]? = some t ∧ St1 c σ H' δ (ρ ++ ρ') x (.d t)
  stop : ∀ {σ : L2.St} {H : Hp} {δ : List SV} {ρ' : List (V × SV)}, O δ → St c σ H δ (ρ ++ ρ') → J.stop ts.length H
def EVI (c : Cn) (ti : TI) (δ : List SV) (P : List SV → (List SV → Prop) → List T → Prop) : Prop :=
  ∀ σ H ρ R, St c σ H δ ρ → (∀ J H' δ' p O ts, P δ' O ts → DIt c J (ρ ++ [p]) O ts → St c σ H' δ' (ρ ++ [p]) → R J H') → ti σ H R
section
variable {c : Cn} {δ : List SV} {Post : List SV → SV → Prop} {R : DEnds} {ti : TI} {g : TG} {tb : TS} {tt : TT} {te tl : TE} {ta : TA} {vs : List Nat}
theorem es_forI (h : EVI c ti δ fun δ1 O ts => ∃ I : Nat → List SV → Prop, I 0 δ1 ∧ (∀ i δ, I i δ → O δ) ∧
    (∀ i t δ, ts[i]? = some t → I i δ → GT c g All (.d t) δ fun δ2 => ES c tb δ2 { R with nx := I (i + 1), ct := I (i + 1), bk := R.nx }) ∧ ∀ δ, I ts.length δ → R.nx δ) : ES c (tFor ti g tb) δ R := fun σ H ρ D S M =>
  h σ H ρ _ S fun J H1 δ1 p O ts ⟨I, h0, hO, hs, hd⟩ DI S1 => by
    refine ⟨fun i m σ H => m = ts.length - i ∧ i ≤ ts.length ∧ ∃ δ, I i δ ∧ St c σ H δ (ρ ++ [p]), ⟨ts.length, by simp, Nat.zero_le _, δ1, h0, S1⟩, ?_⟩
    rintro i m σ2 H2 ⟨rfl, hi, δ2, k, S2⟩
    have S2' : St c σ2 H2 δ2 ((ρ ++ [p]) ++ []) := by rw [List.append_nil]; exact S2
    by_cases hlt : i < ts.length
    · refine .inr ⟨DI.go hlt (hO _ _ k) S2', fun σ' H' => ∃ δ, I (i + 1) δ ∧ St c σ' H' δ (ρ ++ [p]), fun σ' H' p' => ⟨ts.length - (i + 1), by omega, rfl, hlt, p'⟩, fun x H' y => ?_⟩
      obtain ⟨t, ht, S3⟩ := DI.yld hlt (hO _ _ k) S2' y
      rw [List.append_nil] at S3
      refine hs i t δ2 ht k x σ2 H' _ _ S3 fun σ3 H3 δ3 k3 S6 _ => k3 σ3 H3 _ _ S6 (M.turn (N := fun σ' H' => ∃ δ, I (i + 1) δ ∧ St c σ' H' δ (ρ ++ [p])) fun σ H δ k S => ⟨δ, k, S⟩)
    · have e : i = ts.length := by omega
      subst e
      exact .inl ⟨DI.stop (hO _ _ k) S2', M.nx σ2 H2 δ2 (hd δ2 k) S2.drop⟩
theorem ev_lcI (h : EVI c ti δ fun δ1 O ts => ts.length ≤ sizeLine ∧ ∃ I : Nat → List T → List SV → Prop, I 0 [] (wd δ1 vs) ∧ (∀ i acc δ, I i acc δ → O δ) ∧
    (∀ i t acc δ, ts[i]? = some t → acc.length ≤ i → I i acc δ → GT c g (· ∈ vs) (.d t) (wd δ vs) fun δ2 => EVT c tt δ2 fun δ3 b => if b = true then EV c te δ3 fun δ4 r => ∃ t', Pu r (.d t') ∧ I (i + 1) (acc ++ [t']) (wd δ4 vs) else I (i + 1) acc (wd δ3 vs)) ∧
    ∀ acc δ, acc.length ≤ ts.length → I ts.length acc δ → ∀ p, Post δ (.own p (.lst acc))) : EV c (tLc ti g tt te vs) δ Post := fun σ H ρ Q S q =>
  h σ H ρ _ S fun J H1 δ1 p O ts ⟨hz, I, h0, hO, hs, hd⟩ DI S1 => fun Dl hD => by
    obtain ⟨F1, g1, S4⟩ := S1
    obtain ⟨g2, S5⟩ := lc_start (vs := vs) S4 hD
    refine ⟨fun i m H => m = ts.length - i ∧ i ≤ ts.length ∧ ∃ acc δ, acc.length ≤ i ∧ I i acc δ ∧ St c σ H δ ((ρ ++ [p]) ++ [(.ref Dl, .own Dl (.lst acc))]), ⟨ts.length, by simp, Nat.zero_le _, [], _, Nat.le_refl _, h0, F1, g2, S5⟩, ?_⟩
    rintro i m H2 ⟨rfl, hi, acc, δ2, hlen, k, S6⟩
    by_cases hlt : i < ts.length
    · refine .inr ⟨DI.go hlt (hO _ _ _ k) S6, fun H' => ∃ acc δ, acc.length ≤ i + 1 ∧ I (i + 1) acc δ ∧ St c σ H' δ ((ρ ++ [p]) ++ [(.ref Dl, .own Dl (.lst acc))]), fun H' p' => ⟨ts.length - (i + 1), by omega, rfl, hlt, p'⟩, fun x H' y => ?_⟩
      obtain ⟨t, ht, F3, g3, S7, hx⟩ := DI.yld hlt (hO _ _ _ k) S6 y
      have hx : DV c.B F3 x t := hx
      refine lc_turn (J := fun acc δ => acc.length ≤ i + 1 ∧ I (i + 1) acc δ) (by omega) ?_ S7 hx _ fun H' acc' δ' k S => ⟨acc', δ', k.1, k.2, S⟩
      refine fun v σ H ρ Q S q => hs i t acc δ2 ht hlen k v σ H ρ Q S fun σ' H' δ' k' S' o => q σ' H' δ' (fun σ H ρ Q S q => k' σ H ρ Q S fun b H' δ' k' S' => q b H' δ' ?_ S') S' o
      cases b with
      | true => exact fun σ H ρ Q S q => (show EV c te δ' fun δ4 r => ∃ t', Pu r (.d t') ∧ I (i + 1) (acc ++ [t']) (wd δ4 vs) from k') σ H ρ Q S fun v H' δ' r ⟨t', p, kk⟩ S' => q v H' δ' r ⟨t', p, by rw [List.length_append, List.length_singleton]; omega, kk⟩ S'
      | false => exact ⟨Nat.le_succ_of_le hlen, k'⟩
    · have e : i = ts.length := by omega
      subst e
      have S7 := lc_end S6
      obtain ⟨F, g, S7, t7⟩ := S7
      exact .inl ⟨DI.stop (hO _ _ _ k) S6, q _ H2 δ2 _ (hd acc δ2 hlen k Dl) ⟨F, g, S7.drop, t7⟩⟩

/-! ### texts, enumerate -/
theorem StF.at {F : Hp} {gg : Addr → Option Loc} {σ : L2.St} {H : Hp} {ρ ρ' : List (V × SV)} {p : V × SV} (S : StF c F gg σ H δ ((ρ ++ [p]) ++ ρ')) : TempOk c F gg H ρ.length p := S.drop.last
theorem ei_S {P : List SV → (List SV → Prop) → List T → Prop} (h : EV c te δ fun δ1 r => ∃ x : Str, r = .d (.str x) ∧ P δ1 (fun _ => True) (x.cps.toList.map fun n => T.str ⟨#[n]⟩)) : EVI c (iStr te) δ P := fun σ H ρ R S q =>
  h σ H ρ _ S fun v H1 δ1 r ⟨x, e, k⟩ S1 => by
    subst e
    have e : v = .str x := by obtain ⟨F, _, _, hv⟩ := S1; exact DV.str_ (B := c.B) (F := F) hv
    subst e
    refine ⟨x, rfl, q (Its x) H1 δ1 (.str x, .d (.str x)) _ _ k ⟨?_, ?_, ?_⟩ S1.push⟩
    · intro i σ H δ ρ' hi _ _; show i < x.cps.size; simpa using hi
    · rintro i σ H H' δ ρ' y hi _ S ⟨rfl, n, hn, rfl⟩
      refine ⟨.str ⟨#[n]⟩, ?_, S.flat rfl⟩
      rw [List.getElem?_map]
      have : x.cps.toList[i]? = some n := by simpa using hn
      rw [this]; rfl
    · intro σ H δ ρ' _ _; show x.cps.size ≤ _; simp
theorem get_map2 {α : Type} (f : Nat → α → T) : ∀ (ts : List α) (i k : Nat) (t : α), ts[i]? = some t → (ts.zipIdx k |>.map fun p => f p.2 p.1)[i]? = some (f (k + i) t) := by
  intro ts i k t h
  rw [List.getElem?_map, List.getElem?_zipIdx, h]; rfl
/-- the pairs of an index and an item -/
def enumT (ts : List T) : List T := ts.zipIdx.map fun p => .tup [.int (p.2 : Nat), p.1]
theorem enumT_len (ts : List T) : (enumT ts).length = ts.length := by simp [enumT]
theorem ei_E {P : List SV → (List SV → Prop) → List T → Prop} (h : EVA c ta δ fun δ1 rs => ∃ ts, rs = [.d (.lst ts)] ∧ P δ1 (fun _ => True) (enumT ts)) : EVI c (iEnum c.B.K ta) δ P := fun σ H ρ R S q =>
  h σ H ρ _ S fun vs H1 δ1 rs ⟨ts, e, k⟩ hl S1 => by
    subst e
    obtain ⟨v, rfl, F, gg, S2⟩ := S1.arg1 hl
    have hv : DV c.B F v (.lst ts) := S2.last
    simp only [DV] at hv
    obtain ⟨a, xs, rfl, hx, hxs⟩ := hv
    have hlen := hxs.length
    have key : ∀ {σ : L2.St} {H : Hp} {δ : List SV} {ρ' : List (V × SV)}, St c σ H δ ((ρ ++ [(V.ref a, SV.lv xs ts)]) ++ ρ') → SqL c.B.K H a xs := fun ⟨F, gg, S⟩ => by
      obtain ⟨b, e, hx, _⟩ := S.at
      cases e; exact S.fh.sql hx
    refine ⟨a, xs, rfl, SqL.of (S2.fh _ _ hx), q (Ite c.B.K a) H1 δ1 (.ref a, .lv xs ts) _ _ k ⟨?_, ?_, ?_⟩ ⟨F, gg, S2.drop.push ⟨a, rfl, SqL.of hx, hxs⟩⟩⟩
    · intro i σ H δ ρ' hi _ S
      rw [enumT_len, ← hlen] at hi
      exact ⟨xs, xs[i], key S, by simp [hi]⟩
    · rintro i σ H H' δ ρ' y hi _ S ⟨p, x, rfl, hp, rfl, hh⟩
      have hxi := hh xs (key S)
      obtain ⟨F, gg, S⟩ := S
      obtain ⟨b, e, _, hd⟩ := S.at
      obtain ⟨t, ht, hxt⟩ := hd.get' hxi
      refine ⟨.tup [.int (i : Nat), t], ?_, ?_⟩
      · have := get_map2 (fun n t => T.tup [.int (n : Nat), t]) ts i 0 t ht
        rw [Nat.zero_add] at this
        exact this
      · obtain ⟨S3, e3⟩ := S.newTup (u := .tup [.int (i : Nat), x]) hp
        refine ⟨_, gg, S3, ?_⟩
        exact DV.tup_ (SqT.of upd_same) (.cons (by simp only [DV]) (.cons (hxt.any e3) .nil))
    · intro σ H δ ρ' _ S
      exact ⟨xs, key S, by rw [enumT_len, hlen]; exact Nat.le_refl _⟩
theorem ei_L {P : List SV → (List SV → Prop) → List T → Prop} (h : EV c tl δ fun δ1 r => ∃ ts, Pu r (.d (.lst ts)) ∧ P δ1 (fun _ => True) ts) : EVI c (iList c.B.K tl) δ P := fun σ H ρ R S q =>
  h σ H ρ _ S fun v H1 δ1 r ⟨ts, p, k⟩ S1 => by
    obtain ⟨F, gg, S2⟩ := S1.put p
    have hv : DV c.B F v (.lst ts) := S2.last
    simp only [DV] at hv
    obtain ⟨a, xs, rfl, hx, hxs⟩ := hv
    have hlen := hxs.length
    have key : ∀ {σ : L2.St} {H : Hp} {δ : List SV} {ρ' : List (V × SV)}, St c σ H δ ((ρ ++ [(V.ref a, SV.lv xs ts)]) ++ ρ') → SqL c.B.K H a xs := fun ⟨F, gg, S⟩ => by
      obtain ⟨b, e, hx, _⟩ := S.at
      cases e; exact S.fh.sql hx
    refine ⟨a, rfl, ⟨xs, SqL.of (S2.fh _ _ hx)⟩, q (Itl c.B.K a) H1 δ1 (.ref a, .lv xs ts) _ _ k ⟨?_, ?_, ?_⟩ ⟨F, gg, S2.drop.push ⟨a, rfl, SqL.of hx, hxs⟩⟩⟩
    · intro i σ H δ ρ' hi _ S
      rw [← hlen] at hi
      exact ⟨xs, xs[i], key S, by simp [hi]⟩
    · rintro i σ H H' δ ρ' y hi _ S ⟨rfl, hh⟩
      have hxi := hh xs (key S)
      obtain ⟨F, gg, S⟩ := S
      obtain ⟨b, e, _, hd⟩ := S.at
      obtain ⟨t, ht, hxt⟩ := hd.get' hxi
      exact ⟨t, ht, F, gg, S, hxt⟩
    · intro σ H δ ρ' _ S
      exact ⟨xs, key S, by rw [hlen]; exact Nat.le_refl _⟩
theorem ei_T {P : List SV → (List SV → Prop) → List T → Prop} (h : EV c tl δ fun δ1 r => ∃ ts, r = .d (.tup ts) ∧ P δ1 (fun _ => True) ts) : EVI c (iTup c.B.K tl) δ P := fun σ H ρ R S q =>
  h σ H ρ _ S fun v H1 δ1 r ⟨ts, p, k⟩ S1 => by
    subst p
    obtain ⟨F, gg, S2⟩ := S1.push
    have hv : DV c.B F v (.tup ts) := S2.last
    simp only [DV] at hv
    obtain ⟨a, xs, rfl, hx, hxs⟩ := hv
    have hlen := hxs.length
    have key : ∀ {σ : L2.St} {H : Hp} {δ : List SV} {ρ' : List (V × SV)}, St c σ H δ ((ρ ++ [(V.ref a, SV.tv xs ts)]) ++ ρ') → SqT c.B.K H a xs := fun ⟨F, gg, S⟩ => by
      obtain ⟨b, e, hx, _⟩ := S.at
      cases e; exact S.fh.sqt hx
    refine ⟨a, rfl, ⟨xs, S2.fh.sqt hx⟩, q (Itt c.B.K a) H1 δ1 (.ref a, .tv xs ts) _ _ k ⟨?_, ?_, ?_⟩ ⟨F, gg, S2.drop.push ⟨a, rfl, hx, hxs⟩⟩⟩
    · intro i σ H δ ρ' hi _ S
      rw [← hlen] at hi
      exact ⟨xs, xs[i], key S, by simp [hi]⟩
    · rintro i σ H H' δ ρ' y hi _ S ⟨rfl, hh⟩
      have hxi := hh xs (key S)
      obtain ⟨F, gg, S⟩ := S
      obtain ⟨b, e, _, hd⟩ := S.at
      obtain ⟨t, ht, hxt⟩ := hd.get' hxi
      exact ⟨t, ht, F, gg, S, hxt⟩
    · intro σ H δ ρ' _ S
      exact ⟨xs, key S, by rw [hlen]; exact Nat.le_refl _⟩
/-! ### constants of the frozen heap -/
theorem ev_k {v : V} {t : T} (hk : ∀ F, DV c.B F v t) (k : Post δ (.d t)) : EV c (tC v) δ Post := fun σ H ρ Q S q => by
  obtain ⟨F, gg, S⟩ := S
  exact q v H δ _ k ⟨F, gg, S, hk F⟩
theorem ei_O {P : List SV → (List SV → Prop) → List T → Prop} (h : EV c tl δ fun δ1 r => ∃ a ts, r = .ptr a ∧ Owns δ1 a (.lst ts) ∧ P δ1 (fun δ => Owns δ a (.lst ts)) ts) : EVI c (iList c.B.K tl) δ P := fun σ H ρ R S q =>
  h σ H ρ _ S fun v H1 δ1 r ⟨a, ts, e, ow, k⟩ S1 => by
    subst e
    obtain ⟨F, gg, S2, e⟩ := S1
    have e : v = .ref a := e
    subst e
    obtain ⟨xs, hx, hxs⟩ := S2.owned ow
    have key : ∀ {σ : L2.St} {H : Hp} {δ : List SV} {ρ' : List (V × SV)}, Owns δ a (.lst ts) → St c σ H δ ρ' → ∃ xs F, SqL c.B.K H a xs ∧ DVs c.B F xs ts ∧ ∃ gg, StF c F gg σ H δ ρ' := fun o ⟨F, gg, S⟩ => by
      obtain ⟨xs, hx, hxs⟩ := S.owned o
      exact ⟨xs, F, SqL.of hx, hxs, gg, S⟩
    refine ⟨a, rfl, ⟨xs, SqL.of hx⟩, q (Itl c.B.K a) H1 δ1 (.ref a, .ptr a) _ _ k ⟨?_, ?_, ?_⟩ ⟨F, gg, S2.push (p := (V.ref a, SV.ptr a)) rfl⟩⟩
    · intro i σ H δ ρ' hi o S
      obtain ⟨xs, F, h1, h2, _⟩ := key o S
      rw [← h2.length] at hi
      exact ⟨xs, xs[i], h1, by simp [hi]⟩
    · rintro i σ H H' δ ρ' y hi o S ⟨rfl, hh⟩
      obtain ⟨xs, F, h1, h2, gg, S2⟩ := key o S
      obtain ⟨t, ht, hxt⟩ := h2.get' (hh xs h1)
      exact ⟨t, ht, F, gg, S2, hxt⟩
    · intro σ H δ ρ' o S
      obtain ⟨xs, F, h1, h2, _⟩ := key o S
      exact ⟨xs, h1, by rw [h2.length]; exact Nat.le_refl _⟩
theorem ei_R {P : List SV → (List SV → Prop) → List T → Prop} (h : EVA c ta δ fun δ1 rs => ∃ n : Nat, rs = [.d (.int n)] ∧ (n : Int) < 2 ^ 62 ∧ P δ1 (fun _ => True) ((List.range n).map fun k => T.int (k : Nat))) : EVI c (iRng1 ta) δ P := fun σ H ρ R S q =>
  h σ H ρ _ S fun vs H1 δ1 rs ⟨n, e, hn, k⟩ hl S1 => by
    subst e
    obtain ⟨rfl, S2⟩ := one_int hl S1
    obtain ⟨F, gg, S2⟩ := S2
    refine ⟨n, rfl, by omega, hn, q (Itr 0 ((n : Int)).toNat) H1 δ1 (.int n, .d (.int n)) _ _ k ⟨?_, ?_, ?_⟩ ⟨F, gg, S2.push (p := (V.int n, SV.d (.int n))) (show DV c.B F (.int n) (.int n) by simp only [DV])⟩⟩
    · intro i σ H δ ρ' hi _ _; show i < ((n : Int)).toNat; simpa using hi
    · rintro i σ H H' δ ρ' y hi _ S ⟨rfl, rfl⟩
      refine ⟨.int (i : Nat), ?_, S.flat (by rw [Int.zero_add]; rfl)⟩
      have : i < n := by simpa using hi
      simp [this]
    · intro σ H δ ρ' _ _; show ((n : Int)).toNat ≤ _; simp
theorem St.frz {σ : L2.St} {H : Hp} {ρ : List (V × SV)} {i : Nat} {a : Addr} {o : OW} (S : St c σ H δ ρ) {t : T} (h : δ[i]? = some (.own a o)) (hf : o.fr = some t) : St c σ H (δ.set i (.d t)) ρ := by
  obtain ⟨F, gg, S⟩ := S
  obtain ⟨ex, hg, h0, ho⟩ := S.sl i _ h
  obtain ⟨fa, u, hu⟩ := S.gn a _ hg
  have e3 : Ex F (upd F a u) := Ex.new fa
  have hd : DV c.B (upd F a u) (.ref a) t := by
    cases o with
    | lst ts => cases hf; obtain ⟨xs, h1, h2⟩ := ho; rw [hu] at h1; cases h1; simp only [DV]; exact ⟨a, xs, rfl, upd_same, DVs.mono e3 _ _ h2⟩
    | dK ks vs => cases hf; obtain ⟨xs, h1, h3, h2⟩ := ho; rw [hu] at h1; cases h1; simp only [DV]; exact ⟨a, xs, rfl, upd_same, h3, DVs.mono e3 _ _ h2⟩
    | dN ks vs => cases hf; obtain ⟨xs, h1, h3, h4, h2⟩ := ho; rw [hu] at h1; cases h1; simp only [DV]; exact ⟨a, xs, rfl, upd_same, h3, DVs.mono e3 _ _ h4, DVs.mono e3 _ _ h2⟩
    | ins C dx ns ts => cases hf; obtain ⟨xs, h1, h3, h2⟩ := ho; rw [hu] at h1; cases h1; simp only [DV]; exact ⟨a, dx, xs, rfl, upd_same, h3, DVs.mono e3 _ _ h2⟩
    | lk ob es ks vs => cases hf
    | txs ks => cases hf
  have hk : ∀ b l, l ≠ Loc.slot i → gg b = some l → (if b = a then none else gg b) = some l := fun b l n e => by
    have : b ≠ a := fun z => by rw [z, hg] at e; cases e; exact n rfl
    rw [if_neg this]; exact e
  refine ⟨upd F a u, fun b => if b = a then none else gg b, ⟨S.fh.in1 hu, S.f0.trans e3, fun b o e => ?_, S.h0, by rw [List.length_set]; exact S.len, fun j s e => ?_, fun n p e => (S.tm n p e).mono e3 (fun b h => hk b _ (by intro z; cases z) h) (fun _ _ => rfl), fun b l e => ?_, fun b e => ?_⟩⟩
  · have : b ≠ a := fun z => by rw [z, h0] at e; cases e
    rw [upd_ne this]; exact S.fn b o e
  · by_cases q : j = i
    · subst q
      have hj : j < δ.length := by
        have := (List.getElem?_eq_some_iff.mp e).1
        rwa [List.length_set] at this
      rw [List.getElem?_set_self hj] at e
      cases e
      exact ⟨_, ex, hd⟩
    · rw [List.getElem?_set_ne (Ne.symm q)] at e
      exact (S.sl j s e).mono e3 (fun b h => hk b _ (by intro z; injection z with z; exact q z) h) (fun _ _ => rfl)
  · by_cases q : b = a
    · rw [if_pos q] at e; cases e
    · rw [if_neg q] at e
      rw [upd_ne q]; exact S.gn b l e
  · obtain ⟨q1, q2, q3⟩ := S.an b e
    have : b ≠ a := fun z => by obtain ⟨o, z3⟩ := q3; rw [z, h0] at z3; cases z3
    rw [upd_ne this]; exact ⟨q1, q2, q3⟩
theorem ev_frz {i : Nat} {a : Addr} {o : OW} {t : T} (h : δ[i]? = some (.own a o)) (hf : o.fr = some t) (k : EV c te (δ.set i (.d t)) Post) : EV c te δ Post := fun σ H ρ Q S q => k σ H ρ Q (S.frz h hf) q
theorem es_frz {t : TS} {i : Nat} {a : Addr} {o : OW} {u : T} (h : δ[i]? = some (.own a o)) (hf : o.fr = some u) (k : ES c t (δ.set i (.d u)) R) : ES c t δ R := fun σ H ρ D S M => k σ H ρ D (S.frz h hf) M
end
end DL

namespace DL
open PySem L2

/-! ### d.items() of a dict with tuple keys -/
def ItN (B : Bs) (d : Addr) (o : Obj) (es : List EN) : It :=
  ⟨fun i H => H d = some (.frz o (hoN B d es)) ∧ i < es.length, fun i H x H' => ∃ T k b v, es[i]? = some (k, b, v) ∧ x = .ref T ∧ H T = none ∧ H' = upd H T (.tup [.ref b, v]), fun i H => H d = some (.frz o (hoN B d es)) ∧ es.length ≤ i⟩
theorem pn_get : ∀ {es : List EN} {xs : List (NestedKey × Addr × Value)}, PN es xs → ∀ {i : Nat} {k : NestedKey} {b : Addr} {v : V}, es[i]? = some (k, b, v) → ∃ u, xs[i]? = some (k, b, u) ∧ RelV v u
  | _, _, .nil, i, _, _, _, e => by simp at e
  | _, _, .cons (b := y) r rs, 0, _, _, _, e => by
    simp at e; subst e
    obtain ⟨r1, r2, r3⟩ := r
    obtain ⟨k', b', u⟩ := y
    have r1 : _ = k' := r1
    have r2 : _ = b' := r2
    subst r1; subst r2
    exact ⟨u, rfl, r3⟩
  | _, _, .cons r rs, i + 1, _, _, _, e => by
    rw [List.getElem?_cons_succ] at e ⊢
    exact pn_get rs e
theorem frzN {X : Cx} {pins : List (Addr × Obj)} {σ : L2.St} {H : Hp} {s : Shared} {d : Addr} {o : Obj} {es : List EN} (I : Inv X pins σ H s) (h : H d = some (.frz o (hoN (Bx X) d es))) :
    (d == sysModules) = false ∧ ∃ (es' : Array DictEntry) (ep : Nat) (xs : List (NestedKey × Addr × Value)), o.data = .dict es' ep ∧ s.heap.DictRaw d es' ep ∧ es'.size = es.length ∧ PN es xs ∧ es'.toList = xs.map (entryOfKey (nestedKind X.prog X.w)) := by
  obtain ⟨ho, ⟨hz, hd, _, xs, pn, o', es', ep, h1, h2, h3, h4, h5⟩, _, _⟩ := I.hok d _ h
  rw [ho] at h1
  cases h1
  refine ⟨hd, es', ep, xs, h3, ⟨o, ho, h2, h3⟩, ?_, pn, h4⟩
  have l1 := congrArg List.length h4
  rw [List.length_map, ← Paired.length pn] at l1
  simpa using l1
theorem turn_itemsN {B : Bs} {d : Addr} {o : Obj} {es : List EN} {es0 : Array DictEntry} {ep : Nat} {elts : List Expr} {kk : Nat} {tpos : Pos} (it : Addr) (hod : o.data = .dict es0 ep) :
    Turn B.P B.w B.K (.Tuple elts kk tpos) (ItN B d o es) [it] it (fun i h => ∃ ok ov, IsItemIter h it d i es.length ep ok ov) where
  mem := by simp
  obj := fun i h st b hb => by
    have e : b = it := by simpa using hb
    subst e
    obtain ⟨ok, ov, e⟩ := st
    exact ⟨_, e, fun v z => nomatch z⟩
  keep := fun i h h' st k => let ⟨ok, ov, e⟩ := st; ⟨ok, ov, k it (by simp) _ e⟩
  item := by
    intro X hP hw hK hc i pins s σ H E I hf st hg
    obtain ⟨hd, hi⟩ := hg
    have eB : B = Bx X := by unfold Bx; rw [hP, hw, hK]
    rw [eB] at hd ⊢
    obtain ⟨hs, es', ep', xs, hdt, raw, hsz, pn, hl⟩ := frzN I hd
    obtain ⟨e1, e2⟩ := L2.dict_ep hod hdt
    obtain ⟨ok, ov, he⟩ := st
    have hlt : it < s.heap.objs.size := Heap.lt_size he
    have hi' : i < es'.size := by rw [hsz]; exact hi
    obtain ⟨⟨k, b, v⟩, hkv⟩ : ∃ p, es[i]? = some p := ⟨es[i], List.getElem?_eq_getElem hi⟩
    obtain ⟨u, hx, r3⟩ := pn_get pn hkv
    have hent : es'[i] = entryOfKey (nestedKind X.prog X.w) (k, b, u) := by
      have z : es'.toList[i]? = some (entryOfKey (nestedKind X.prog X.w) (k, b, u)) := by rw [hl, List.getElem?_map, hx]; rfl
      have z2 : es'.toList[i]? = some es'[i] := by rw [Array.getElem?_toList]; simp [hi']
      rw [z2] at z; injection z
    show wpAny (model X.prog X.w) X.A _ _ E s
    rw [← hsz, ← e2] at he
    refine wpAny_pyNext_items_item_raw he raw hi' fun h' ho hT hz hk => ?_
    rw [hent] at ho hT
    refine ⟨_, rfl, wpAny_letOwnedTupleGo_items (s := { s with heap := h' }) ho fun h'' he' sb => ?_⟩
    have hT2 : h''.get? s.heap.objs.size = some { cls := .type "tuple", data := .seq #[.ref b, u] } := (sb.2 _ (Nat.ne_of_gt hlt)).trans hT
    have new : ObjOk X.prog X.w (upd H s.heap.objs.size (.tup [.ref b, v])) h'' s.heap.objs.size (.tup [.ref b, v]) :=
      ⟨by show 2 ≤ sizeLine; decide, [.ref b, u], .cons rfl (.cons r3 .nil), ⟨_, hT2, rfl, _, rfl⟩⟩
    have I1 : Inv X pins σ (upd H s.heap.objs.size (.tup [.ref b, v])) { s with heap := h'' } :=
      I.turnedNew (t' := s.toks) (ch := [it]) (fun b ob hb e => (sb.2 b (by simpa using hb)).trans (hk b ob (by simpa using hb) e)) hf (Nat.le_refl _) new
    refine ⟨.ref s.heap.objs.size, _, I1, rfl, ⟨_, k, b, v, hkv, rfl, I.hok.fresh (Nat.le_refl _), rfl⟩, ⟨.ref b, u, ?_⟩, fun b hb => ?_⟩
    · rw [hsz, e2] at he'; exact he'
    · have e : b = it := by simpa using hb
      rw [e, upd_ne (Nat.ne_of_lt hlt)]
      exact (hf it (by simp)).1
  done := by
    intro X hP hw hK hc i pins s σ H E I hf st hg
    obtain ⟨hd, hi⟩ := hg
    have eB : B = Bx X := by unfold Bx; rw [hP, hw, hK]
    rw [eB] at hd ⊢
    obtain ⟨f0, f1, f2, f3, f4, f5⟩ := hf it (by simp)
    obtain ⟨hs, es', ep', xs, hdt, raw, hsz, pn, hl⟩ := frzN I hd
    obtain ⟨e1, e2⟩ := L2.dict_ep hod hdt
    obtain ⟨ok, ov, he⟩ := st
    show wpAny (model X.prog X.w) X.A _ _ E s
    rw [← hsz, ← e2] at he
    exact wpAny_pyNext_items_end_raw (I.ok.hd hc) he raw (by omega) fun h' eb => ⟨rfl, I.turned (t' := s.toks) (fun b ob hb e => eb b ob hb e) f0 f1 f3 f4 f5⟩
  self := fun A i s Q E st h => let ⟨_, _, e⟩ := st; PySem.W.kcp_self e h
end DL

namespace DL
open PySem L2

def iItemsN (B : Bs) (td : TE) : TI := fun σ H R => td σ H fun x H1 => ∃ d o es, x = .ref d ∧ H1 d = some (.frz o (hoN B d es)) ∧ R (ItN B d o es) H1
theorem pi_itemsN {X : Cx} {e : Expr} {td : TE} {apos cpos : Pos} {elts : List Expr} {kk : Nat} {tpos : Pos} (he : PE X e td) (hbase : attributeBase e "items" X.env (eval e X.env) = eval e X.env := by rfl) (hline : (apos.endLine == cpos.line) = true := by rfl) :
    PI X (.Tuple elts kk tpos) (.Call (.Attribute e "items" apos) [] [] cpos) (iItemsN (Bx X) td) := by
  refine ⟨fun pins s σ H R I h => ?_⟩
  refine wpAny_Call_method (T := "dict") (id := "dict.items") hbase rfl hline F.plainAttrs_dict F.slot_dict_items F.type_dict_items (thn (he.run pins s σ H _ I h) fun u s1 ⟨x, H1, I1, rx, d, o, es, ex, hd, q⟩ => ?_)
  subst ex
  obtain rfl : u = Value.ref d := rx
  obtain ⟨hs, es', ep, xs, hdt, raw, hsz, pn, hl⟩ := frzN I1 hd
  refine ⟨raw.typeIs, ?_, ?_⟩
  · obtain ⟨o', h1, h2, _⟩ := raw
    exact fun a e => by cases e; exact ⟨o', h1, h2.2.1⟩
  have I2 : Inv X pins σ H1 { s1 with heap := s1.heap.push { cls := .type "dict_items", data := .fields #[.ref d] } } := I1.kept (t' := s1.toks) fun b ob q => Heap.get?_push_of_some _ q
  have raw2 : (s1.heap.push { cls := .type "dict_items", data := .fields #[.ref d] }).DictRaw d es' ep := raw.at fun o h => Heap.get?_push_of_some _ h
  have fin : wpAny (model X.prog X.w) X.A (pyIter (.ref s1.heap.objs.size)) (PIE X pins σ (.Tuple elts kk tpos) R) X.xe { s1 with heap := s1.heap.push { cls := .type "dict_items", data := .fields #[.ref d] } } := by
    refine wpAny_pyIter_items_raw (d := d) ⟨_, Heap.get?_push_size _ rfl, rfl, rfl⟩ raw2 (pi_one (tk := s1.toks) I2 _ (turn_itemsN (B := Bx X) _ hdt) ⟨.none, .none, ?_⟩ q)
    rw [hsz]
    exact Heap.get?_push_size _ rfl
  show wpAny _ _ (callWith cpos (.builtin "dict.items") [.ref d] [] []) _ X.xe s1
  exact method_meetsIn F.slot_dict_items F.entry_dict_items rfl (PySem.evalArgs_none ⟨rfl, raw.typeIs, F.args_dict_items_1 _, _, meets_dict_items_raw d hs, ⟨es', ep, raw⟩, fin⟩)
end DL

namespace DL
open PySem L2

section
variable {c : Cn} {δ : List SV} {Post : List SV → SV → Prop} {te td : TE}
/-- the pairs of a key and a value -/
def pairT : List T → List T → List T
  | k :: ks, v :: vs => .tup [k, v] :: pairT ks vs
  | _, _ => []
theorem pairT_map {α β : Type} (f : α → T) (g : β → T) : ∀ m : List (α × β), pairT (m.map fun p => f p.1) (m.map fun p => g p.2) = m.map fun p => .tup [f p.1, g p.2]
  | [] => rfl
  | p :: m => by rw [List.map_cons, List.map_cons, pairT, pairT_map f g m]; rfl
theorem pairT_get {B : Bs} {F : Hp} : ∀ {es : List EN} {ks vs : List T}, DVs B F (es.map fun e => V.ref e.2.1) ks → DVs B F (es.map fun e => e.2.2) vs → (pairT ks vs).length = es.length ∧ ∀ {i : Nat} {k : NestedKey} {b : Addr} {v : V}, es[i]? = some (k, b, v) → ∃ t u, (pairT ks vs)[i]? = some (.tup [t, u]) ∧ DV B F (.ref b) t ∧ DV B F v u
  | [], ks, vs, h1, h2 => by
    cases ks with
    | nil => exact ⟨rfl, fun e => by simp at e⟩
    | cons k ks => have := h1.length; simp at this
  | e :: es, ks, vs, h1, h2 => by
    cases ks with
    | nil => have := h1.length; simp at this
    | cons k ks =>
    cases vs with
    | nil => have := h2.length; simp at this
    | cons w vs =>
    rw [List.map_cons] at h1 h2
    obtain ⟨a1, a2⟩ := h1.uncons
    obtain ⟨b1, b2⟩ := h2.uncons
    obtain ⟨z1, z2⟩ := pairT_get a2 b2
    refine ⟨by rw [pairT, List.length_cons, List.length_cons, z1], fun {i k b v} q => ?_⟩
    cases i with
    | zero => simp at q; subst q; exact ⟨_, _, rfl, a1, b1⟩
    | succ i => rw [List.getElem?_cons_succ] at q; exact z2 q
theorem ei_itemsN {P : List SV → (List SV → Prop) → List T → Prop} (h : EV c td δ fun δ1 r => ∃ a ob es ks vs, r = .ptr a ∧ Owns δ1 a (.lk ob es ks vs) ∧ P δ1 (fun δ => Owns δ a (.lk ob es ks vs)) (pairT ks vs)) : EVI c (iItemsN c.B td) δ P := fun σ H ρ R S q =>
  h σ H ρ _ S fun v H1 δ1 r ⟨a, ob, es, ks, vs, e, ow, k⟩ S1 => by
    subst e
    obtain ⟨F, gg, S2, e⟩ := S1
    have e : v = .ref a := e
    subst e
    obtain ⟨hx, _, hk, hv⟩ := S2.owned ow
    have hl := (pairT_get hk hv).1
    refine ⟨a, ob, es, rfl, hx, q (ItN c.B a ob es) H1 δ1 (.ref a, .ptr a) _ _ k ⟨?_, ?_, ?_⟩ ⟨F, gg, S2.push (p := (V.ref a, SV.ptr a)) rfl⟩⟩
    · rintro i σ H δ ρ' hi o ⟨F, gg, S⟩
      exact ⟨(S.owned o).1, by rw [← hl]; exact hi⟩
    · rintro i σ H H' δ ρ' y hi o ⟨F, gg, S⟩ ⟨p, k, b, v, hp, rfl, hn, rfl⟩
      obtain ⟨_, _, hk, hv⟩ := S.owned o
      obtain ⟨t, u, ht, d1, d2⟩ := (pairT_get hk hv).2 hp
      obtain ⟨S3, e3⟩ := S.newTup (u := .tup [.ref b, v]) hn
      exact ⟨_, ht, _, gg, S3, DV.tup_ (SqT.of upd_same) (.cons (d1.any e3) (.cons (d2.any e3) .nil))⟩
    · rintro σ H δ ρ' o ⟨F, gg, S⟩
      exact ⟨(S.owned o).1, by rw [hl]; exact Nat.le_refl _⟩
/-- a dict that slot j owns is locked while e runs -/
theorem ev_lock (j : Nat) {a : Addr} {ks vs : List T} (hj : δ[j]? = some (.own a (.dN ks vs))) (h : ∀ ob es, EV c te (δ.set j (.own a (.lk ob es ks vs))) fun δ1 r => δ1[j]? = some (.own a (.lk ob es ks vs)) ∧ Post (δ1.set j (.own a (.dN ks vs))) r) : EV c (tLockE te) δ Post := fun σ H ρ Q S q => by
  obtain ⟨F, gg, S⟩ := S
  obtain ⟨_, hg, h0, es, h1, h2, h3, h4⟩ := S.sl j _ hj
  refine ⟨a, _, h1, ?_, fun od => ?_⟩
  · exact True.intro
  refine h od es σ (upd H a (.frz od (hoN c.B a es))) ρ _ ⟨F, gg, S.updO (o' := .lk od es ks vs) hj ⟨upd_same, h2, h3, h4⟩⟩ fun v H' δ' r ⟨hj', k⟩ ⟨F', g', S', ht⟩ => ?_
  obtain ⟨_, hg', h0', h1', h2', h3', h4'⟩ := S'.sl j _ hj'
  refine ⟨h1', q v _ _ r k ⟨F', g', S'.updO (o' := .dN ks vs) (u := hoN c.B a es) hj' ⟨es, upd_same, h2', h3', h4'⟩, ?_⟩⟩
  cases r with
  | d t => exact ht
  | own b o =>
    obtain ⟨r1, r2, r3, r4⟩ := ht
    refine ⟨r1, r2, r3, r4.mono (Ex.refl F') (upd_ne fun z => ?_)⟩
    subst z; rw [hg'] at r2; cases r2
  | ptr b => exact ht
  | lv _ _ => exact ht
  | tv _ _ => exact ht
  | no => trivial
  | arg _ _ => exact ht
theorem es_seqJ {t u : TS} {R : DEnds} (J : List SV → Prop) (h : ES c t δ { R with nx := J }) (k : ∀ δ, J δ → ES c u δ R) : ES c (tSeq t u) δ R :=
  es_seq (h.imp (fun δ h => k δ h) (fun _ _ h => h) (fun _ h => h) (fun _ h => h))
theorem ev_chainP {ta tb tc : TE} {f f' : R2} (h : EV c ta δ fun δ1 r1 => ∃ s1, Pu r1 s1 ∧ EV c tb δ1 fun δ2 r2 => ∃ t2, r2 = .d t2 ∧ ∃ b : Bool, (∀ Post, Post δ2 (.d (.bl b)) → OP2 c f δ2 s1 (.d t2) Post) ∧
    if b = true then EV c tc δ2 fun δ4 r4 => ∃ s4, Pu r4 s4 ∧ OP2 c f' δ4 (.d t2) s4 Post else Post δ2 (.d (.bl false))) : EV c (tChain f f' ta tb tc) δ Post :=
  ev_chain (h.imp fun δ1 r1 ⟨s1, p, k⟩ => ⟨s1, p, k.imp fun δ2 r2 ⟨t2, e, b, ho, k2⟩ => ⟨t2, e, fun δ3 r => r = .d (.bl b) ∧ δ3 = δ2, ho _ ⟨rfl, rfl⟩, fun δ3 r ⟨e1, e2⟩ => ⟨b, e1, e2, k2⟩⟩⟩)
/-! ### a text in a tuple or list of texts -/
theorem inV_strs (z : Str) (zs : List Str) : inV (.str z) (zs.map V.str) = decide (z ∈ zs) := by
  unfold inV
  rw [List.any_map]
  by_cases h : z ∈ zs
  · rw [decide_eq_true h, List.any_eq_true]; exact ⟨z, h, by simp [eqV]⟩
  · rw [decide_eq_false h, List.any_eq_false]
    intro y hy
    have : y ≠ z := fun e => h (e ▸ hy)
    simpa [eqV] using this
theorem flat_strs (zs : List Str) : (zs.map V.str).all flatV = true := by rw [List.all_map, List.all_eq_true]; intro _ _; rfl
theorem uin_ST {z : Str} {zs : List Str} (k : Post δ (.d (.bl (decide (z ∈ zs))))) : OP2 c (uIn c.B false) δ (.d (.str z)) (.d (.tup (zs.map .str))) Post := o2_l fun σ H ρ x y Q S q => by
  obtain ⟨F, g, S2, h1, h2⟩ := S.top2
  obtain rfl : x = .str z := DV.str_ (B := c.B) (F := F) h1
  have h2 : DV c.B F y (.tup (zs.map .str)) := h2
  simp only [DV] at h2
  obtain ⟨a, xs, rfl, hx, hd⟩ := h2
  rw [dv_strs hd] at hx
  exact ⟨a, _, rfl, .inr (S2.fh.sqt hx), rfl, flat_strs zs, by rw [inV_strs]; exact q _ _ δ _ k (St.flat ⟨F, g, S2⟩ rfl)⟩
theorem uni_ST {z : Str} {zs : List Str} (k : Post δ (.d (.bl (!decide (z ∈ zs))))) : OP2 c (uIn c.B true) δ (.d (.str z)) (.d (.tup (zs.map .str))) Post := o2_l fun σ H ρ x y Q S q => by
  obtain ⟨F, g, S2, h1, h2⟩ := S.top2
  obtain rfl : x = .str z := DV.str_ (B := c.B) (F := F) h1
  have h2 : DV c.B F y (.tup (zs.map .str)) := h2
  simp only [DV] at h2
  obtain ⟨a, xs, rfl, hx, hd⟩ := h2
  rw [dv_strs hd] at hx
  exact ⟨a, _, rfl, .inr (S2.fh.sqt hx), rfl, flat_strs zs, by rw [inV_strs]; exact q _ _ δ _ k (St.flat ⟨F, g, S2⟩ rfl)⟩
/-- not in, and in a list of texts -/
theorem uin_SL {z : Str} {zs : List Str} {s : SV} (l : LstV δ s (zs.map .str)) (k : Post δ (.d (.bl (decide (z ∈ zs))))) : OP2 c (uIn c.B false) δ (.d (.str z)) s Post := o2_l fun σ H ρ x y Q S q => by
  obtain ⟨F, g, S2, h1, h2⟩ := S.top2
  obtain rfl : x = .str z := DV.str_ (B := c.B) (F := F) h1
  obtain ⟨a, xs, rfl, hx, hd⟩ := l.at S2 h2
  rw [dv_strs hd] at hx
  exact ⟨a, _, rfl, .inl (SqL.of hx), rfl, flat_strs zs, by rw [inV_strs]; exact q _ _ δ _ k (St.flat ⟨F, g, S2⟩ rfl)⟩
/-- an assignment that stays after a call of a def without answer -/
theorem ev_callPn {S : List T → (RT → Prop) → Prop} {ta : TA} {E : XK} (h : EVA c ta δ fun δ1 rs => ∃ ts, rs = ts.map .d ∧ S ts fun r => RTp Post δ1 r) : EV c (tCall (spP c.B S) [] E ta) δ Post :=
  ev_callP fun σ H ρ Q S0 q => h σ H ρ Q S0 fun vs H' δ' rs ⟨ts, e, hS⟩ => q vs H' δ' rs ⟨ts, e, _, hS, fun r h => h⟩
end
end DL

namespace DL
open PySem L2
/-! ### the same rules, with the frame's program told (within comprehensions) -/
section
variable {X : Cx} {K : PySem.W.Frag} {B : Bs} {tg l e : Expr} {tl ta te : TE} {tx : TA} {f : Str} {pos : Pos}
theorem ix_B (B : Bs) (h : Bx X = B) (hu : X.A.units + 64 < cLine) : IxR X (uIx B) := h ▸ ix_U hu
theorem op_inB (B : Bs) (h : Bx X = B) (hu : X.A.units + 64 < cLine) : OpR X (compareOp .In) (uIn B false) := h ▸ op_uIn hu
theorem op_notInB (B : Bs) (h : Bx X = B) (hu : X.A.units + 64 < cLine) : OpR X (compareOp .NotIn) (uIn B true) := h ▸ op_uNotIn hu
theorem set_B (B : Bs) (h : Bx X = B) (hu : X.A.units + 64 < cLine) : PSet X (uSet B) := h ▸ set_U hu
theorem call_lenB (B : Bs) (h : Bx X = B) (hu : X.A.units + 64 < cLine) : CallR X (.builtin "len") (uLen B) := h ▸ call_uLen
theorem op_addB (B : Bs) (h : Bx X = B) : OpR X (binaryOp .Add) (uAdd B.K) := by subst h; exact op_uAdd
theorem op_eqB (B : Bs) (h : Bx X = B) (hu : X.A.units + 64 < cLine) : OpR X (compareOp .Eq) (rEqD B.K) := by subst h; exact op_eqD hu
theorem op_neB (B : Bs) (h : Bx X = B) (hu : X.A.units + 64 < cLine) : OpR X (compareOp .NotEq) (rNeD B.K) := by subst h; exact op_neD hu
theorem call_sortedB (B : Bs) (h : Bx X = B) (hu : X.A.units + 66 < cLine) : CallR X (.builtin "sorted") (rSorted B) := h ▸ call_sorted' hu
theorem call_listB (B : Bs) (h : Bx X = B) : CallR X (.type "list") (rList1 B) := h ▸ call_list'
theorem call_tupleB (B : Bs) (h : Bx X = B) : CallR X (.type "tuple") (rTuple1 B) := h ▸ call_tuple'
theorem call_maxB (B : Bs) (h : Bx X = B) (hc : X.calm = true) : CallR X (.builtin "max") (rMax B.K) := by subst h; exact cr_max hc
theorem call_allB (B : Bs) (h : Bx X = B) (hc : X.calm = true) : CallR X (.builtin "all") (rAll B.K) := by subst h; exact cr_all hc
theorem call_anyB (B : Bs) (h : Bx X = B) (hc : X.calm = true) : CallR X (.builtin "any") (rAny B.K) := by subst h; exact cr_any hc
theorem call_isiB (B : Bs) (h : Bx X = B) : CallR X (.builtin "isinstance") (rIsi B.K) := by subst h; exact call_isi
theorem mt_joinB (B : Bs) (h : Bx X = B) : MtR X "str.join" (rJoin1 B) := h ▸ mt_join'
theorem sl_B (B : Bs) (h : Bx X = B) : SlR X (uSl B) := h ▸ sl_u
theorem pi_listB (B : Bs) (h : Bx X = B) (hl : PE X l tl) : PI X tg l (iList B.K tl) := by subst h; exact pi_list hl
theorem pi_tupB (B : Bs) (h : Bx X = B) (hl : PE X l tl) : PI X tg l (iTup B.K tl) := by subst h; exact pi_tup hl
theorem pe_fldB (B : Bs) (h : Bx X = B) (he : PE X e ta) (hb : attributeBase e f X.env (eval e X.env) = eval e X.env) : PE X (.Attribute e f pos) (tFld B.K ta f) := by subst h; exact pe_fld he hb
theorem pg_tupB {es : List Expr} {k : Nat} {t : TGs} (B : Bs) (h : Bx X = B) (n : Nat) (hc : X.calm = true) (hp : PGs X es t) (hn : (assignEach es X.env).length = n := by rfl) (hst : (assignEach es X.env).findIdx? (·.1) = none := by rfl) : PG X (.Tuple es k pos) (gTup B.K n t) := by subst h; exact pg_tup hc hp hn hst
end
end DL

namespace DL
open PySem L2
/-! ### owned lists given to defs that only read, and that answer with a flat value -/
inductive AsD (δ : List SV) : SV → T → Prop
  | d {t : T} : AsD δ (.d t) t
  | o {a : Addr} {o : OW} {t : T} (h : Owns δ a o) (hf : o.fr = some t) : AsD δ (.ptr a) t
inductive AsDs (δ : List SV) : List SV → List T → Prop
  | nil : AsDs δ [] []
  | cons {s : SV} {t : T} {ss : List SV} {ts : List T} (h : AsD δ s t) (r : AsDs δ ss ts) : AsDs δ (s :: ss) (t :: ts)
def flatT : T → Prop
  | .non => True
  | .bl _ => True
  | .int _ => True
  | .str _ => True
  | _ => False
theorem flatT.dv {B : Bs} {F F' : Hp} : ∀ {t : T} {v : V}, flatT t → DV B F v t → DV B F' v t
  | .non, _, _, h => by simp only [DV] at h ⊢; exact h
  | .bl _, _, _, h => by simp only [DV] at h ⊢; exact h
  | .int _, _, _, h => by simp only [DV] at h ⊢; exact h
  | .str _, _, _, h => by simp only [DV] at h ⊢; exact h
  | .raw _, _, h, _ => h.elim
  | .lst _, _, h, _ => h.elim
  | .rl _, _, h, _ => h.elim
  | .dN _ _, _, h, _ => h.elim
  | .dK _ _, _, h, _ => h.elim
  | .tup _, _, h, _ => h.elim
  | .obj _ _ _, _, h, _ => h.elim
section
variable {c : Cn} {δ : List SV} {Post : List SV → SV → Prop} {ta : TA} {E : XK}
theorem ow_dv {B : Bs} {F F1 H : Hp} {a : Addr} {o : OW} {t : T} {u : HO} (ho : OwAt B F H a o) (hx : H a = some u) (e3 : Ex F F1) (h1 : F1 a = some u) (hf : o.fr = some t) : DV B F1 (.ref a) t := by
  cases o with
  | lst ts => cases hf; obtain ⟨xs, h1', h2⟩ := ho; rw [hx] at h1'; cases h1'; simp only [DV]; exact ⟨a, xs, rfl, h1, DVs.mono e3 _ _ h2⟩
  | dK ks vs => cases hf; obtain ⟨xs, h1', h3, h2⟩ := ho; rw [hx] at h1'; cases h1'; simp only [DV]; exact ⟨a, xs, rfl, h1, h3, DVs.mono e3 _ _ h2⟩
  | dN ks vs => cases hf; obtain ⟨xs, h1', h3, h4, h2⟩ := ho; rw [hx] at h1'; cases h1'; simp only [DV]; exact ⟨a, xs, rfl, h1, h3, DVs.mono e3 _ _ h4, DVs.mono e3 _ _ h2⟩
  | ins C dx ns ts => cases hf; obtain ⟨xs, h1', h3, h2⟩ := ho; rw [hx] at h1'; cases h1'; simp only [DV]; exact ⟨a, dx, xs, rfl, h1, h3, DVs.mono e3 _ _ h2⟩
  | lk ob es ks vs => cases hf
  | txs ks => cases hf
theorem asd_all {F F1 H : Hp} {g : Addr → Option Loc} {σ : L2.St} (ef : Ex F F1) (hk : ∀ a u, F a = none → H a = some u → (∃ l, g a = some l) → F1 a = some u) : ∀ {ss : List SV} {ts : List T} {vs : List V} {ρ : List (V × SV)}, AsDs δ ss ts → vs.length = ss.length → StF c F g σ H δ (ρ ++ vs.zip ss) → DVs c.B F1 vs ts
  | _, _, vs, _, .nil, hl, _ => by
    have : vs = [] := List.length_eq_zero_iff.mp hl
    subst this; exact .nil
  | s :: ss, t :: ts, v :: vs, ρ, .cons h r, hl, S => by
    rw [List.zip_cons_cons] at S
    have S' : StF c F g σ H δ ((ρ ++ [(v, s)]) ++ vs.zip ss) := by rw [List.append_assoc]; exact S
    refine .cons ?_ (asd_all ef hk r (by simpa using hl) S')
    have ht : TempOk c F g H ρ.length (v, s) := S'.at
    cases h with
    | d => exact DV.any (B := c.B) (v := v) ht ef
    | @o a o _ how hf =>
      obtain rfl : v = .ref a := ht
      have ho := S.owned how
      obtain ⟨u, hu⟩ := ho.some
      have hl : F a = none ∧ ∃ l, g a = some l := by
        obtain ⟨j, hj | hj⟩ := how
        · obtain ⟨_, h1, h2, h3⟩ := S.sl j _ hj; exact ⟨(S.gn _ _ h1).1, _, h1⟩
        · obtain ⟨_, h1, h2, h3⟩ := S.sl j _ hj; exact ⟨(S.gn _ _ h1).1, _, h1⟩
      exact ow_dv ho hu ef (hk _ u hl.1 hu hl.2) hf
theorem callR_core {S : List T → (RT → Prop) → Prop} {σ : L2.St} {H1 : Hp} {δ1 : List SV} {ρ : List (V × SV)} {vs : List V} {rs : List SV} {ts : List T} {Q : VK} (as : AsDs δ1 rs ts) (hS : S ts fun r => ∃ t, r = .d t ∧ flatT t ∧ Post δ1 (.d t)) (hl : vs.length = rs.length) (S2 : St c σ H1 δ1 (ρ ++ vs.zip rs))
    (q : ∀ v H' δ' r, Post δ' r → St1 c σ H' δ' ρ v r → Q v H') : spP c.B S (vs ++ []) H1 Q E := by
    obtain ⟨F, g, S2⟩ := S2
    let F1 : Hp := fun b => if (F b).isSome then F b else if (g b).isSome then H1 b else none
    have ef : Ex F F1 := fun b o e => by
      show (if (F b).isSome then F b else if (g b).isSome then H1 b else none) = some o
      rw [e]; rfl
    have fh : Ex F1 H1 := fun b o e => by
      have e : (if (F b).isSome then F b else if (g b).isSome then H1 b else none) = some o := e
      split at e
      · exact S2.fh b o e
      · split at e
        · exact e
        · cases e
    have hk : ∀ a u, F a = none → H1 a = some u → (∃ l, g a = some l) → F1 a = some u := fun a u h1 h2 ⟨l, h3⟩ => by
      show (if (F a).isSome then F a else if (g a).isSome then H1 a else none) = some u
      rw [h1, h3]; exact h2
    refine ⟨F1, ts, fh, by rw [List.append_nil]; exact asd_all ef hk as hl S2, _, hS, fun r v H' F' ⟨t, e, ft, k⟩ A => ?_⟩
    subst e
    have S3 := S2.grow A.eh (Ex.refl F) (S2.fh.trans A.eh) (fun _ _ _ => rfl)
    exact q v H' δ1 _ k ⟨F, g, S3.drop, ft.dv (show DV c.B F' v t from A.res)⟩
theorem ev_callR {S : List T → (RT → Prop) → Prop} (h : EVA c ta δ fun δ1 rs => ∃ ts, AsDs δ1 rs ts ∧ S ts fun r => ∃ t, r = .d t ∧ flatT t ∧ Post δ1 (.d t)) : EV c (tCall (spP c.B S) [] E ta) δ Post := fun σ H ρ Q S0 q =>
  h σ H ρ _ S0 fun vs H1 δ1 rs ⟨ts, as, hS⟩ hl S2 => callR_core as hS hl S2 q
/-- o.m(..) of an instance that is data -/
theorem ev_methR {S : List T → (RT → Prop) → Prop} {m : Str} {C : Addr} {ns : List Str} {us : List T} {te : TE} (hm : ∀ n ∈ ns, (m == n) = false) (h : EV c te δ fun δ1 r => r = .d (.obj C ns us) ∧ EVA c ta δ1 fun δ2 rs => ∃ ts, AsDs δ2 rs ts ∧ S (.obj C ns us :: ts) fun r => ∃ t, r = .d t ∧ flatT t ∧ Post δ2 (.d t)) : EV c (tMeth C m (spP c.B S) [] E te ta) δ Post := fun σ H ρ Q S0 q =>
  h σ H ρ _ S0 fun x H1 δ1 r ⟨e, k⟩ ⟨F, g, S1, hv⟩ => by
    subst e
    have hv0 : DV c.B F x (.obj C ns us) := hv
    have hv : DV c.B F x (.obj C ns us) := hv
    simp only [DV] at hv
    obtain ⟨a, dx, fs, rfl, ha, hns, hd⟩ := hv
    have hlk : fs.lookup m = none := by
      rw [← hns] at hm
      clear ha hns hd hv0 S1
      induction fs with
      | nil => rfl
      | cons p fs ih =>
        obtain ⟨n, v⟩ := p
        rw [List.lookup_cons, hm n List.mem_cons_self]
        exact ih fun n hn => hm n (List.mem_cons_of_mem _ hn)
    refine ⟨a, dx, fs, rfl, S1.fh _ _ ha, hlk, ?_⟩
    refine k σ H1 (ρ ++ [(.ref a, .d (.obj C ns us))]) _ ⟨F, g, S1.push (p := (V.ref a, SV.d (.obj C ns us))) hv0⟩ fun vs H2 δ2 rs ⟨ts, as, hS⟩ hl S2 => ?_
    rw [List.append_assoc] at S2
    exact callR_core (vs := .ref a :: vs) (rs := .d (.obj C ns us) :: rs) (.cons .d as) hS (by simp [hl]) S2 q
end
end DL

namespace DL
open PySem L2
/-! ### new lists and dicts that stay owned on their way into a name -/
section
variable {c : Cn} {δ : List SV} {Post : List SV → SV → Prop} {ta : TE} {tr : TA}
theorem StF.keep {F : Hp} {g : Addr → Option Loc} {σ : L2.St} {H : Hp} {ρ : List (V × SV)} {a : Addr} {o : OW} {v : V} (S : StF c F g σ H δ ρ) (h : TopOk c F g H v (.own a o)) : St c σ H δ (ρ ++ [(v, .own a o)]) := by
  obtain ⟨e, h1, h2, h3⟩ := h
  exact ⟨F, _, (S.retag (l := .tmp ρ.length) h1).push (p := (v, .own a o)) ⟨e, if_pos rfl, h2, h3⟩⟩
theorem ea_consK {P : List SV → List SV → Prop} (h : EV c ta δ fun δ1 r => ∃ a o, r = .own a o ∧ EVA c tr δ1 fun δ2 rs => P δ2 (.own a o :: rs)) : EVA c (tCons ta tr) δ P := fun σ H ρ Q S q =>
  h σ H ρ _ S fun v H' δ' r ⟨a, o, e, k⟩ ⟨F, g, S1, ht⟩ => by
    subst e
    exact k σ H' (ρ ++ [(v, .own a o)]) _ (S1.keep ht) fun vs H2 δ2 rs k2 hl S2 => q (v :: vs) H2 δ2 (.own a o :: rs) k2 (by simp [hl]) (by
      rw [List.zip_cons_cons]
      rw [List.append_assoc] at S2; exact S2)
theorem St.popO {σ : L2.St} {H : Hp} {ρ : List (V × SV)} {w : V} {a : Addr} {o : OW} (S : St c σ H δ (ρ ++ [(w, .own a o)])) : St1 c σ H δ ρ w (.own a o) := by
  obtain ⟨F, g, S⟩ := S
  obtain ⟨ev, h1, h2, h3⟩ := S.last
  have ev : w = .ref a := ev
  subst ev
  have S0 := S.drop
  refine ⟨F, fun b => if b = a then some .top else g b, ⟨S0.fh, S0.f0, S0.fn, S0.h0, S0.len, fun i s e => (S0.sl i s e).at a (by rw [h1]; intro z; cases z), fun n q e => (S0.tm n q e).at a (fun z => ?_), fun b l' e => ?_, S0.an⟩, rfl, if_pos rfl, h2, h3⟩
  · rw [h1] at z
    injection z with z; injection z with z
    have := (List.getElem?_eq_some_iff.mp e).1
    omega
  · by_cases q : b = a
    · rw [q]; exact S0.gn a _ h1
    · rw [if_neg q] at e; exact S0.gn b l' e
/-- a, b = data, a new list or dict -/
theorem es_parO {i j : Nat} {ta : TA} {R : DEnds} (hij : i ≠ j) (h : EVA c ta δ fun δ1 rs => ∃ t a o, rs = [SV.d t, SV.own a o] ∧ R.nx ((δ1.set i (.d t)).set j (.own a o))) : ES c (tPar i j ta) δ R := fun σ H ρ D S M =>
  h σ H ρ _ S fun vs H1 δ1 rs ⟨t, a, o, e, k⟩ hl S1 => by
    subst e
    match vs, hl, S1 with
    | [v, w], hl, S1 =>
      have S1 : St c σ H1 δ1 ((ρ ++ [(v, .d t)]) ++ [(w, .own a o)]) := by rw [List.append_assoc]; exact S1
      refine ⟨v, w, rfl, M.nx _ _ _ k ?_⟩
      obtain ⟨F, g, S2⟩ : St c (σ.set j (some w)) H1 (δ1.set j (.own a o)) (ρ ++ [(v, .d t)]) := S1.popO.store
      have S3 : St c ((σ.set j (some w)).set i (some v)) H1 ((δ1.set j (.own a o)).set i (.d t)) ρ := St1.store ⟨F, g, S2.drop, S2.last⟩
      rw [List.set_comm _ _ (Ne.symm hij), List.set_comm _ _ (Ne.symm hij)] at S3
      exact S3
/-- a, b = two new lists or dicts -/
theorem es_parOO {i j : Nat} {ta : TA} {R : DEnds} (hij : i ≠ j) (h : EVA c ta δ fun δ1 rs => ∃ a o b u, rs = [SV.own a o, SV.own b u] ∧ R.nx ((δ1.set i (.own a o)).set j (.own b u))) : ES c (tPar i j ta) δ R := fun σ H ρ D S M =>
  h σ H ρ _ S fun vs H1 δ1 rs ⟨a, o, b, u, e, k⟩ hl S1 => by
    subst e
    match vs, hl, S1 with
    | [v, w], hl, S1 =>
      have S1 : St c σ H1 δ1 ((ρ ++ [(v, .own a o)]) ++ [(w, .own b u)]) := by rw [List.append_assoc]; exact S1
      refine ⟨v, w, rfl, M.nx _ _ _ k ?_⟩
      have S2 : St c (σ.set j (some w)) H1 (δ1.set j (.own b u)) (ρ ++ [(v, .own a o)]) := S1.popO.store
      have S3 : St c ((σ.set j (some w)).set i (some v)) H1 ((δ1.set j (.own b u)).set i (.own a o)) ρ := S2.popO.store
      rw [List.set_comm _ _ (Ne.symm hij), List.set_comm _ _ (Ne.symm hij)] at S3
      exact S3
end
section
variable {c : Cn} {δ : List SV} {Post : List SV → SV → Prop}
/-- return a list or dict that a name owns: the name gives it up -/
theorem ev_take {i : Nat} {a : Addr} {o : OW} (h : δ[i]? = some (.own a o)) (k : Post (δ.set i .no) (.own a o)) : EV c (tVar i) δ Post := fun σ H ρ Q S q => by
  obtain ⟨F, g, S⟩ := S
  obtain ⟨ex, h1, h2, h3⟩ := S.sl i _ h
  refine ⟨.ref a, St.join ex, q _ H (δ.set i .no) _ k ⟨F, fun b => if b = a then some .top else g b, ⟨S.fh, S.f0, S.fn, S.h0, by rw [List.length_set]; exact S.len, fun j s e => ?_, fun n p e => (S.tm n p e).at a (by rw [h1]; intro z; cases z), fun b l' e => ?_, S.an⟩, rfl, if_pos rfl, h2, h3⟩⟩
  · by_cases z : j = i
    · subst z
      have hj : j < δ.length := by
        have := (List.getElem?_eq_some_iff.mp e).1
        rwa [List.length_set] at this
      rw [List.getElem?_set_self hj] at e
      cases e; trivial
    · rw [List.getElem?_set_ne (Ne.symm z)] at e
      exact (S.sl j s e).at a (by rw [h1]; intro y; injection y with y; injection y with y; exact z y.symm)
  · by_cases q : b = a
    · rw [q]; exact S.gn a _ h1
    · rw [if_neg q] at e; exact S.gn b l' e
end
end DL

namespace DL
open PySem L2

section
variable {c : Cn} {δ : List SV} {Post : List SV → SV → Prop}
/-! ### list * int -/
theorem o2_rep {s1 : SV} {ts : List T} {n : Nat} (l : LstV δ s1 ts) (hz : ts.length * n ≤ sizeLine) (hn : n < 2 ^ 62) (k : ∀ p, Post δ (.own p (.lst (List.replicate n ts).flatten))) : OP2 c rRep δ s1 (.d (.int n)) Post := fun σ H ρ x y Q S q => by
  obtain ⟨F, g, S2, h1, h2⟩ := S.top2
  obtain ⟨a, xs, rfl, ha, da⟩ := l.at S2 h1
  have hy : y = .int n := DV.int_ (B := c.B) (F := F) h2
  have e : (n : Int).toNat = n := by omega
  refine ⟨a, n, xs, rfl, hy, ha, by omega, by omega, by rw [e, da.length]; exact hz, fun p hp => ?_⟩
  rw [e]
  refine q _ _ δ _ (k p) (S2.newLst hp ?_)
  clear hz hn hy e h2 k S
  induction n with
  | zero => exact .nil
  | succ n ih => rw [List.replicate_succ, List.replicate_succ, List.flatten_cons, List.flatten_cons]; exact da.append ih
/-! ### {k: v} -/
def intA : AtomEnc Int := ⟨fun n => .inl n, fun a b h => by injection h⟩
theorem ev_disp1 {α β : Type} [DecidableEq α] (ke : AtomEnc α) (ev : β → T) {tk tv : TE} (h : EV c tk δ fun δ1 r => ∃ k : α, r = .d (tK (ke.kk k)) ∧ EV c tv δ1 fun δ2 r2 => ∃ x : β, Pu r2 (.d (ev x)) ∧ ∀ p, Post δ2 (.own p (.K ke ev [(k, x)]))) : EV c (tDisp [(tk, tv)]) δ Post := fun σ H ρ Q S q p hp => by
  obtain ⟨F, g, S0⟩ := S
  obtain ⟨g', S1, hg, _, h0⟩ := S0.newOwn (u := .dK []) hp
  have S2 := S1.retag (l := .tmp ρ.length) hg
  have S3 : StF c F _ σ (upd H p (.dK [])) δ (ρ ++ [(.ref p, .own p (.K ke ev ([] : List (α × β))))]) := S2.push ⟨rfl, if_pos rfl, h0, [], upd_same, rfl, .nil⟩
  refine h σ _ _ _ ⟨F, _, S3⟩ fun x H1 δ1 r ⟨k, e, k1⟩ S4 => ?_
  subst e
  refine k1 σ H1 _ _ S4.push fun y H2 δ2 r2 ⟨xv, pu, kk⟩ S5 => ?_
  obtain ⟨F2, g2, S7⟩ := S5.put pu
  have hy : DV c.B F2 y (ev xv) := S7.last
  have S8 := S7.drop
  have hx : DV c.B F2 x (tK (ke.kk k)) := S8.last
  have S9 := S8.drop
  obtain ⟨_, _, _, kvs, e1, e2, e3⟩ := id S9.last
  have e0 : kvs = [] := by
    cases kvs with
    | nil => rfl
    | cons _ _ => cases e2
  subst e0
  refine ⟨e1, [(ke.kk k, y)], by rw [DV.tK hx]; rfl, (show 1 ≤ 15 by decide), q _ _ δ2 _ (kk p) ?_⟩
  have S10 := S9.updT (u := .dK [(ke.kk k, y)]) (o' := .K ke ev [(k, xv)]) ⟨_, upd_same, rfl, .cons hy .nil⟩
  exact St.popO ⟨F2, g2, S10⟩
/-! ### x += i -/
theorem es_augI {i : Nat} {te : TE} {R : DEnds} {x : Int} (hx : δ[i]? = some (.d (.int x))) (h : EV c te δ fun δ1 r => ∃ y : Int, r = .d (.int y) ∧ R.nx (δ1.set i (.d (.int (x + y))))) : ES c (tAug i te (ipI fun i j => i + j)) δ R := fun σ H ρ D S M => by
  obtain ⟨F, g, S0⟩ := S
  obtain ⟨v, e, hv⟩ := S0.data hx
  obtain rfl := DV.int_ hv
  refine ⟨_, e, h σ H ρ _ ⟨F, g, S0⟩ fun w H1 δ1 r ⟨y, er, k⟩ S1 => ?_⟩
  subst er
  obtain ⟨F1, g1, S2, hw⟩ := S1
  have hw : DV c.B F1 w (.int y) := hw
  obtain rfl := DV.int_ hw
  refine ⟨x, y, rfl, rfl, M.nx _ _ _ k ?_⟩
  exact St1.store (St.flat ⟨F1, g1, S2⟩ rfl)
end
section
variable {X : Cx}
/-! ### o.m(k = v, ..) -/
def tMethK (C : Addr) (m : Str) (sp : Sp) (gV : List V → List V → List V) (E : XK) (ta : TE) (tk : TA) : TE := fun σ H Q => ta σ H fun x H1 => ∃ a dx fs, x = .ref a ∧ H1 a = some (.ins C dx fs) ∧ fs.lookup m = none ∧ tk σ H1 fun zs H2 => sp (gV [x] zs) H2 Q E
theorem pe_methK0 {CX : CXT} {k : Nat} {f C : Addr} {fd : FuncData} {ps ks : List Str} {sp : Sp} {m : Str} {ta : TE} {tk : TA} {E : XK} {o : Expr} {apos pos : Pos} {kws : List Keyword} {g : List Value → List Value → List Value} {gV : List V → List V → List V} {pl : Sem Bool}
    (he : PE X o ta) (c : Cls X.K C) (hm : Meth X.K C m f) (F : FnOk X.prog X.w X.K X.mg X.base CX k f fd ps sp) (hr : Room k X.A) (hb : KBinds X.K fd ps ks g gV) (hx : Passes CX X E) (hkw : PK X kws tk)
    (hall : (backToKw pos (keywordEach kws X.env)).all (·.1.isSome) = true := by rfl) (hks : (backToKw pos (keywordEach kws X.env)).filterMap (·.1) = ks := by rfl)
    (hpl : ((backTo pos (starEach [] X.env)).any (·.1) || (backToKw pos (keywordEach kws X.env)).any (·.1.isNone)) = false := by rfl)
    (ht : eval (.Call (.Attribute o m apos) [] kws pos) X.env = (do
      let ov ← eval o X.env
      standAt apos.atName
      let (f, first) ← holding [ov] (getMethod ov m pl)
      callWith pos f first (backTo pos (starEach [] X.env)) (backToKw pos (keywordEach kws X.env))) := by rfl) :
    PE X (.Call (.Attribute o m apos) [] kws pos) (tMethK C m sp gV E ta tk) := by
  refine ⟨fun pins s σ H Q I h => ?_⟩
  refine PySem.W.methodCall_KW (pl := pl) (thn (he.run pins s σ H _ I h) fun u s1 ⟨x, H1, I1, rx, a, dx, fs, ex, ea, l, q⟩ => ?_) ht
  subst ex
  obtain rfl : u = Value.ref a := rx
  refine getmeth_ok I1 ea c hm l ?_
  refine PySem.W.callWith_KW0 (first := [.ref a]) (h₀ := X.base) I1.ok.mod.kin hm.kp hall ?_ hpl
  refine thn (hkw.run pos pins s1 σ H1 _ I1 q) fun ws s2 ⟨zs, H2, I2, rz, q2⟩ => ⟨I2.kIn, ?_⟩
  rw [hks]
  exact run_fnk (us := [.ref a]) (vs := [.ref a]) F hr hb hx I2 (.cons rfl .nil) rz q2
end
end DL

namespace DL
open PySem L2 PySem.Spec PyProof.Rows

/-! ### repr of data, where no repr is under way -/
def rRepr (B : Bs) : List V → Hp → VK → Prop := fun xs H Q => ∃ v d, xs = [v] ∧ Dp B.K H v d ∧ d.showable = true ∧ d.hasDict = false ∧ d.shown.length ≤ sizeLine ∧ d.depth ≤ 62 ∧ Q (.str d.shown) H
theorem call_repr' {X : Cx} (hg : X.A.guards = some []) (hu : X.A.units + 64 < cLine) : CallR X (.builtin "repr") (rRepr (Bx X)) := by
  intro pins s σ H xs us Q I r h
  obtain ⟨v, d, rfl, hd, h1, h2, h3, h4, q⟩ := h
  obtain ⟨u, rfl, rx⟩ := vals1 r
  cases hd with
  | non => cases rx; rw [PyData.shown_none] at q; exact PySem.P.repr_of_none ⟨.str _, H, I.tok _, ⟨_, rfl⟩, q⟩
  | bl b => cases rx; rw [PyData.shown_bool] at q; exact PySem.P.repr_of_bool ⟨.str _, H, I.tok _, ⟨_, rfl⟩, q⟩
  | int i =>
    obtain ⟨t, rfl⟩ := rx
    rw [PyData.shown_int] at q
    simp only [PyData.showable, decide_eq_true_eq] at h1
    exact PySem.P.repr_of_int h1 ⟨.str _, H, I.tok _, ⟨_, rfl⟩, q⟩
  | str x =>
    obtain ⟨t, rfl⟩ := rx
    rw [PyData.shown_str] at q h3
    exact PySem.P.repr_of_str ⟨.str _, H, I.tok _, ⟨_, rfl⟩, q⟩ h3
  | @lst a xs ds hx hs =>
    cases rx
    obtain ⟨as, rr⟩ := Dp.reads I _ _ _ (Dp.lst hx hs) rfl
    exact repr_of_reads' rr h1 (PyData.noDict_hsm h2) hg (by omega) (fun _ _ e => e) (fun h' u tk hk => (⟨.str _, H, I.kept hk, ⟨u, rfl⟩, q⟩ : EP X pins σ Q _ _)) h3
  | @tup a xs ds hx hs =>
    cases rx
    obtain ⟨as, rr⟩ := Dp.reads I _ _ _ (Dp.tup hx hs) rfl
    exact repr_of_reads' rr h1 (PyData.noDict_hsm h2) hg (by omega) (fun _ _ e => e) (fun h' u tk hk => (⟨.str _, H, I.kept hk, ⟨u, rfl⟩, q⟩ : EP X pins σ Q _ _)) h3
theorem call_reprB {X : Cx} (B : Bs) (h : Bx X = B) (hg : X.A.guards = some []) (hu : X.A.units + 64 < cLine) : CallR X (.builtin "repr") (rRepr B) := h ▸ call_repr' hg hu
section
variable {c : Cn} {δ : List SV} {Post : List SV → SV → Prop}
/-- d can be shown -/
structure ShowOk (d : PyData) : Prop where
  sh : d.showable = true
  nd : d.hasDict = false
  sz : d.shown.length ≤ sizeLine
  dp : d.depth ≤ 62
theorem oa_repr {t : T} {d : PyData} (hd : t.py = some d) (ok : ShowOk d) (k : Post δ (.d (.str d.shown))) : OPA c (rRepr c.B) δ [.d t] Post := fun σ H ρ vs Q hl S q => by
  obtain ⟨v, rfl, S⟩ := S.arg1 hl
  obtain ⟨F, g, S2, h⟩ := S.top1
  have hv : DV c.B F v t := h
  have dp := Dp.mono S2.fh _ _ (DV.dp _ _ _ hv hd)
  exact ⟨v, d, rfl, dp, ok.sh, ok.nd, ok.sz, ok.dp, q _ H δ _ k (St.flat ⟨F, g, S2⟩ rfl)⟩
/-- one truth value, a list of them -/
theorem show_bl (b : Bool) : ShowOk (.bool b) := ⟨rfl, rfl, by rw [PyData.shown_bool]; cases b <;> decide +kernel, by simp [PyData.depth]⟩
theorem o2_neS {i j : Str} (k : Post δ (.d (.bl (!decide (i = j))))) : OP2 c rNe δ (.d (.str i)) (.d (.str j)) Post := fun σ H ρ x w Q S q => by
  obtain ⟨e1, e2, S2⟩ := S.strs
  subst e1; subst e2
  refine ⟨rfl, ?_⟩
  have e : decide (V.str i = V.str j) = decide (i = j) := by
    by_cases h : i = j
    · subst h; simp
    · rw [decide_eq_false h, decide_eq_false fun z => h (by injection z)]
  rw [e]
  exact q _ H δ _ k (S2.flat (t := .bl (!decide (i = j))) rfl)
end
end DL

namespace DL
open PySem L2 PySem.Spec PyProof.Rows

/-! ### defs that are called where no repr is under way -/
structure FnG (P : Program) (w : World) (K : PySem.W.Frag) (mg : Str → Option Value) (base : Heap) (k : Nat) (f : Addr) (fd : FuncData) (ps : List Str) (sp : Sp) : Prop where
  ar : ∀ vs H Q E, sp vs H Q E → vs.length = ps.length
  go : ∀ A outer s H args us vs Q E, A.guards = some [] → L2.Room k A → Env0 P w K mg base A outer s H → BindsTo s fd args (ps.zip us) → Vals vs us → sp vs H Q E →
    codeAny (model P w) A (.call (.ref f) args) (CR CX0 outer P w H s Q E) s
section
variable {P : Program} {w : World} {K : PySem.W.Frag} {mg : Str → Option Value} {base : Heap}
/-- from a def's body to its promise -/
theorem FnG.make {x qual : Str} {st : Stmt} {f : Addr} {fd : FuncData} {N ps : List Str} {k : Nat} {sp : Sp} (Fn : Fun K x qual st f fd) (S : FnScope N ps (defScope st)) (ar : ∀ vs H Q E, sp vs H Q E → vs.length = ps.length)
    (body : ∀ (cdv : Value) (A : Around) (outer : List Env) (s : Shared) (H : Hp) (vs : List V) (Q : VK) (E : XK), (A.deeper (envOfC qual (defScope st) s.heap.objs.size f cdv)).guards = some [] → L2.Room k (A.deeper (envOfC qual (defScope st) s.heap.objs.size f cdv)) → sp vs H Q E →
      ∃ t, PSs (cxOf CX0 P w K mg base N qual (defScope st) f cdv A outer s H E).nox (defBody st) t ∧ t { nx := fun _ H' => Q .non H', rt := Q } (start N vs) H) : FnG P w K mg base (k + 1) f fd ps sp := by
  obtain ⟨oc, od, kV, doc, pm, an, cdv, ct, osl, rfl, look, hcode⟩ := Fn.ex
  constructor
  · exact ar
  · intro A outer s H args us vs Q E gd room ground bind vals want
    have kept : ∀ {b : Addr} {o : Obj}, base.get? b = some o → s.heap.get? b = some o := fun z => (ground.bs _ _ z).1
    have inK : K.In s.heap := ground.mod.kin.keeps fun _ _ z => kept z
    have nolim := ground.mod.nolimit.keeps (h' := s.heap) fun _ _ z => kept z
    have kinds : ∀ y ∈ ps.zip us, (defScope st).names.lookup y.1 = some .local ∨ ((defScope st).names.lookup y.1 = some .cell ∧ ((cellsFrom (s.heap.objs.size + 1) (defScope st).names []).lookup y.1).isSome = true) := by
      intro y hy
      have := S.par y.1 (List.of_mem_zip (a := y.1) (b := y.2) hy).1
      exact this.imp id fun z => ⟨z, PySem.W.cellsFrom_some _ _ _ (.inl z)⟩
    refine codeAny_call_function room.depth (inK _ _ look) rfl S.co S.gen rfl (PySem.W.codeRec_of inK hcode) (bind _ _ _ _ (wpAny_newFunctionEnv_cells S.kind kinds ?_))
    rintro _ rfl s1 inCall
    refine ⟨nolim.keeps inCall.toInCall.keep, codeAny_func ?_⟩
    obtain ⟨t, derive, holds⟩ := body cdv A outer s H vs Q E gd (room.deeper _) want
    have I0 := inv_start (CX := CX0) (E := E) (cd := cdv) S room.hd ground (ar _ _ _ _ want) vals inCall
    refine wpAny_mono (derive.nox.run [] s1 (start N vs) H _ I0 holds) ?_ fun _ _ z => z
    rintro (_ | _ | _ | u) s2 z
    · obtain ⟨_, H2, J, z⟩ := z
      exact ⟨V.non, H2, J.os, J.bare, J.base, J.hok, rfl, z⟩
    · obtain ⟨_, _, _, z⟩ := z; exact z.elim
    · obtain ⟨_, _, _, z⟩ := z; exact z.elim
    · obtain ⟨v, _, H2, J, rel, z⟩ := z
      exact ⟨v, H2, J.os, J.bare, J.base, J.hok, rel, z⟩
/-- a def that may be called there -/
structure CalG (P : Program) (w : World) (K : PySem.W.Frag) (mg : Str → Option Value) (base : Heap) (x : Str) (k : Nat) (ps : List Str) (sp : Sp) where
  f : Addr
  fd : FuncData
  ok : FnG P w K mg base k f fd ps sp
  mg : mg x = some (.ref f)
  kp : PySem.W.keepIn K (.ref f) = true
  bd : Binds K fd ps []
end
section
variable {X : Cx} {k : Nat} {f : Addr} {fd : FuncData} {ps : List Str} {sp : Sp} {x : Str} {e : Expr} {es : List Expr} {t : TA} {p pos : Pos}
theorem FnG.runs (F : FnG X.prog X.w X.K X.mg X.base k f fd ps sp) (gd : X.A.guards = some []) (room : L2.Room k X.A) (bd : Binds X.K fd ps []) {pins : List (Addr × Obj)} {σ : L2.St} {H : Hp} {s : Shared} {Q : VK} {us : List Value} {vs : List V}
    (I : Inv X pins σ H s) (r : Vals vs us) (want : sp vs H Q E0) : wpAny (model X.prog X.w) X.A (call (.ref f) us) (EP X pins σ Q) X.xe s := by
  have hl : us.length = ps.length := r.length.symm.trans (F.ar _ _ _ _ want)
  have b0 := bd s us I.kIn (by simpa using hl)
  rw [List.append_nil] at b0
  refine wpAny_call (codeAny_mono (F.go X.A X.stack s H ⟨us, []⟩ us vs Q E0 gd room I.env0 b0 r want) ?_)
  rintro (e | _ | _ | _ | u) s2 z
  · exact (show False from z).elim
  · exact (show False from z).elim
  · exact (show False from z).elim
  · exact (show False from z).elim
  · exact I.after z
theorem pe_callG (F : FnG X.prog X.w X.K X.mg X.base k f fd ps sp) (gd : X.A.guards = some []) (room : L2.Room k X.A) (hg : Gl X x) (hm : X.mg x = some (.ref f)) (hk : PySem.W.keepIn X.K (.ref f) = true) (bd : Binds X.K fd ps [])
    (ha : PA X (e :: es) t) (hdb : (x == ("__debug__" : Str)) = false := by decide) (he : starEach (e :: es) X.env = (false, eval e X.env) :: starEach es X.env := by rfl) (hpl : (backTo pos (starEach es X.env)).any (·.1) = false := by rfl) :
    PE X (.Call (.Name x p) (e :: es) [] pos) (tCall sp [] E0 t) := by
  constructor
  intro pins s σ H Q I h
  refine wpAny_Call_Name_kw (ld_glob I hg hm (PySem.W.callWith_K (h₀ := X.base) I.ok.mod.kin hk (thn (ha.run pos pins s σ H _ I h) ?_) he hpl) hdb)
  rintro us s1 ⟨vs, H1, I1, r, want⟩
  exact ⟨I1.kIn, F.runs gd room bd I1 r (by simpa using want)⟩
end
/-! ### the law -/
section
variable {P : Program} {w : World} {K : PySem.W.Frag} {mg mb : Str → Option Value}
/-- the law's call gives True, and leaves what stood -/
abbrev GivesTrue (P : Program) (w : World) (fa a : Addr) (s₁ : Shared) : Prop :=
  codeAny (model P w) callerA (.call (.ref fa) ⟨[.ref a], []⟩) (fun r s' => r = .ok (.ret (.bool true)) ∧
    OldK s₁.heap s'.heap ∧ s'.os = s₁.os ∧ AllBare s'.gens) s₁
theorem law_callG {k : Nat} {fa a : Addr} {fd : FuncData} {x : Str} {sp : Sp} {s₁ : Shared} {vs : List Value} {ns : List Int}
    (inK : K.In s₁.heap) (hns : s₁.heap.Ns mainGlobals mg) (hb : s₁.heap.Ns builtinsNs mb) (boot : ∀ x : Str, x ≠ "__name__" → mb x = bootBuiltins x) (lim : s₁.heap.NoLimit) (gens : s₁.gens = #[])
    (ha : s₁.heap.get? a = some { cls := .type "list", data := .seq vs.toArray }) (hi : IntsAre vs ns) (hl : ns.length ≤ sizeLine) (room : L2.Room k callerA)
    (F : ∀ base : Heap, K.In base → base.Ns mainGlobals mg → FnG P w K mg base k fa fd [x] sp) (bind : ∀ (s : Shared) (u : Value), BindsTo s fd ⟨[u], []⟩ [(x, u)])
    (want : ∀ H : Hp, Only H → SqL K H a (ns.map V.int) → sp [.ref a] H (fun v _ => v = .bl true) E0) :
    GivesTrue P w fa a s₁ := by
  have rel := L2.vals_ints hi
  have hlv : vs.length = ns.length := hi.length
  let ob : Obj := { cls := .type "list", data := .seq vs.toArray }
  let G0 : Hp := fun b => if b = a ∧ K.lookup a = none then some (.frz ob (.lst (ns.map V.int))) else none
  have g0 : ∀ {b : Addr} {u : HO}, G0 b = some u → b = a ∧ K.lookup a = none ∧ u = .frz ob (.lst (ns.map V.int)) := by
    intro b u z
    by_cases q : b = a ∧ K.lookup a = none
    · have z2 : some (HO.frz ob (.lst (ns.map V.int))) = some u := (if_pos q).symm.trans z
      injection z2 with z2
      exact ⟨q.1, q.2, z2.symm⟩
    · have z2 : none = some u := (if_neg q).symm.trans z
      cases z2
  have only : Only G0 := fun b => by
    by_cases q : b = a ∧ K.lookup a = none
    · exact .inr ⟨ob, _, if_pos q⟩
    · exact .inl (if_neg q)
  have told : HOk P w G0 s₁.heap := fun b u z => by
    obtain ⟨rfl, _, rfl⟩ := g0 z
    exact ⟨ha, by rw [List.length_map]; exact hl, vs, _, rel, ha⟩
  have seq : SqL K G0 a (ns.map V.int) := by
    cases q : K.lookup a with
    | none => exact .inl (.inr ⟨ob, if_pos ⟨rfl, q⟩⟩)
    | some o =>
      have z := inK a o q
      rw [ha] at z
      injection z with z
      subst z
      exact .inr ⟨_, vs.toArray, _, q, rfl, rfl, rfl, by rw [List.size_toArray, hlv]; exact hl, by simpa using rel⟩
  have none_of : ∀ {b : Addr} {o : Obj}, (b = a → K.lookup a = none → False) → s₁.heap.get? b = some o → (hidT s₁.heap G0).get? b = some o := fun {b o} no z => hidT_get z (by
    cases q : G0 b with
    | none => rfl
    | some u => exact (no (g0 q).1 (g0 q).2.1).elim)
  have dicts : ∀ {b : Addr} {m : Str → Option Value}, s₁.heap.Ns b m → (hidT s₁.heap G0).Ns b m := by
    rintro b m ⟨o, es, ep, z, zd, zr⟩
    refine ⟨o, es, ep, none_of (fun q _ => ?_) z, zd, zr⟩
    subst q
    rw [ha] at z
    injection z with z
    subst z
    have zd : Data.seq vs.toArray _ = Data.dict es ep := zd
    cases zd
  have inB : K.In (hidT s₁.heap G0) := fun b o z => none_of (fun q1 q2 => by subst q1; rw [q2] at z; cases z) (inK b o z)
  have limB : (hidT s₁.heap G0).NoLimit := by
    obtain ⟨mc, z1, z2⟩ := lim
    exact ⟨mc, dicts z1, z2⟩
  have ground : Env0 P w K mg (hidT s₁.heap G0) callerA [] s₁ G0 := {
    frames := rfl
    mod := ⟨inB, dicts hns, ⟨mb, dicts hb, boot⟩, limB⟩
    bs := fun b o z => of_hidT z
    bsz := Nat.le_of_eq (hidT_size _ _)
    funs := trivial
    frf := fun b z => by cases z
    hok := told
    bare := .of_eq gens }
  refine codeAny_mono ((F _ inB (dicts hns)).go callerA [] s₁ G0 ⟨[.ref a], []⟩ [.ref a] [.ref a] _ E0 rfl room ground (bind s₁ (.ref a)) (.cons rfl .nil) (want G0 only seq)) ?_
  rintro (e | _ | _ | _ | u) s2 z
  · exact (show False from z).elim
  · exact (show False from z).elim
  · exact (show False from z).elim
  · exact (show False from z).elim
  · obtain ⟨v, H2, os, bare, un, hok2, rel2, zv⟩ := z
    have zv : v = .bl true := zv
    subst zv
    obtain rfl : u = Value.bool true := rel2
    refine ⟨rfl, OldK.of_keep ?_, os, bare⟩
    intro b o zb
    cases q : G0 b with
    | none => exact un.keep b o zb q (fun z => by cases z) (by simp)
    | some u =>
      obtain ⟨_, _, rfl⟩ := g0 q
      have z1 := (told b _ q).1
      have z2 := (hok2 b _ (un.frzs b _ _ q)).1
      rw [zb] at z1
      injection z1 with z1
      subst z1
      exact z2
theorem walk_ofG {l : PySem.W.OpenLaw} {n k : Nat} {q : Program} {loose : List Str} {XP : (Str → Option Value) → Heap → Prop} {YP : World → Heap → Prop} {d : DefRec} {K : Params → PySem.W.Frag} {sp : PySem.W.Frag → Sp} {x : Str}
    (hn : l.most = some n) (hn2 : n ≤ sizeLine) (hdf : d.params.defaults = []) (room : L2.Room k callerA) (hY : ∀ (w : World) (h : Heap), YP w h → (K w.params).In h)
    (F : ∀ (w : World) (mg : Str → Option Value) (fa : Addr) (h : Heap), (K w.params).In h → h.Ns mainGlobals mg → mg d.name = some (.ref fa) →
      ∃ fd : FuncData, (∀ (s : Shared) (u : Value), BindsTo s fd ⟨[u], []⟩ [(x, u)]) ∧ ∀ base : Heap, (K w.params).In base → base.Ns mainGlobals mg → FnG l.prog w (K w.params) mg base k fa fd [x] (sp (K w.params)))
    (hsp : ∀ (K : PySem.W.Frag) (H : Hp) (a : Addr) (ns : List Int), ns.length ≤ n → Only H → SqL K H a (ns.map V.int) → sp K [.ref a] H (fun v _ => v = .bl true) E0) :
    PySem.W.WalkO q loose XP YP l.row.toRowW d [] fun g us => PySem.call g us := by
  refine Att.attach_call hn hdf ?_
  intro w s₀ s₁ mg mb fa o pm cd doc a vs ns gr Y ho hd hcd hmg hobj hil hlen gens
  obtain ⟨fd, hb, hF⟩ := F w mg fa _ (hY w _ Y) gr.T.g hmg
  refine law_callG (hY w _ Y) gr.T.g gr.T.b gr.T.builtins gr.T.nolimit gens hobj hil (Nat.le_trans hlen hn2) room hF hb ?_
  exact fun H h1 h2 => hsp _ H a ns hlen h1 h2
end
end DL

namespace DL
open PySem L2
section
variable {c : Cn} {δ : List SV} {Post : List SV → SV → Prop}
theorem o2_eqI {i j : Int} (k : Post δ (.d (.bl (decide (i = j))))) : OP2 c (rEqD c.B.K) δ (.d (.int i)) (.d (.int j)) Post :=
  o2_eq (t := .int i) (u := .int j) (d := .int i) (e := .int j) (b := decide (i = j)) rfl rfl rfl rfl (by simp only [PyData.eqv]; by_cases h : i = j <;> simp [h]) k
theorem o2_neI {i j : Int} (k : Post δ (.d (.bl (!decide (i = j))))) : OP2 c (rNeD c.B.K) δ (.d (.int i)) (.d (.int j)) Post :=
  o2_ne (t := .int i) (u := .int j) (d := .int i) (e := .int j) (b := decide (i = j)) rfl rfl rfl rfl (by simp only [PyData.eqv]; by_cases h : i = j <;> simp [h]) k
theorem uix_m {α : Type} {f : α → T} {l : List α} {j : Nat} {s1 : SV} (lv : LstV δ s1 (l.map f)) (hj : j < l.length) (k : Post δ (.d (f l[j]))) : OP2 c (uIx c.B) δ s1 (.d (.int j)) Post :=
  uix_L lv (atI_nat (by simp [hj])) k
/-! ### texts -/
theorem join_cps (ys : List Str) : (Txt.join (Str.ofString "") ys).cps.toList = (ys.map fun y => y.cps.toList).flatten := by
  have key : ∀ (l : List Str) (acc : Array Nat), (l.foldl (fun acc p => acc ++ (Str.ofString "").cps ++ p.cps) acc).toList = acc.toList ++ (l.map fun y => y.cps.toList).flatten := by
    intro l
    induction l with
    | nil => intro acc; simp
    | cons y l ih =>
      intro acc
      rw [List.foldl_cons, ih]
      simp [show (Str.ofString "").cps = #[] from rfl]
  cases ys with
  | nil => rfl
  | cons y ys =>
    show (ys.foldl _ y.cps).toList = _
    rw [key]; rfl
theorem mulOk_one {n : Nat} {i : Int} (h1 : 1 ≤ i) (h2 : i ≤ 100) : MulOk ⟨#[n]⟩ i := by
  refine ⟨by simp; omega, fun _ _ => ?_, fun _ _ => ?_⟩
  · have : (1 : Int) ≤ (2 ^ 63 - 1) / i := by
      apply (Int.le_ediv_iff_mul_le (by omega)).mpr; omega
    show ¬ ((1 : Nat) : Int) > _
    omega
  · unfold Builtin.Str.tooLong
    have e : (⟨#[n]⟩ : Str).length = 1 := rfl
    rw [e]
    simp
    have : sizeLine ≥ 100 := by decide +kernel
    omega
end
end DL

namespace DL
open PySem L2
/-! ### trees of tuples, texts, numbers alone -/
mutual
def noL : T → Prop
  | .non => True
  | .bl _ => True
  | .int _ => True
  | .str _ => True
  | .tup ts => noLs ts
  | _ => False
def noLs : List T → Prop
  | [] => True
  | t :: ts => noL t ∧ noLs ts
end
section
variable {B : Bs} {F F' : Hp}
mutual
theorem DV.del (h : ∀ a xs, SqT B.K F a xs → SqT B.K F' a xs) : ∀ (t : T) (v : V), noL t → DV B F v t → DV B F' v t
  | .non, _, _, q => by simp only [DV] at q ⊢; exact q
  | .bl _, _, _, q => by simp only [DV] at q ⊢; exact q
  | .int _, _, _, q => by simp only [DV] at q ⊢; exact q
  | .str _, _, _, q => by simp only [DV] at q ⊢; exact q
  | .raw _, _, n, _ => n.elim
  | .lst _, _, n, _ => n.elim
  | .rl _, _, n, _ => n.elim
  | .dN _ _, _, n, _ => n.elim
  | .dK _ _, _, n, _ => n.elim
  | .obj _ _ _, _, n, _ => n.elim
  | .tup ts, _, n, q => by
    simp only [DV] at q ⊢
    obtain ⟨a, xs, e, q1, q2⟩ := q
    exact ⟨a, xs, e, h a xs q1, DVs.del h ts xs n q2⟩
theorem DVs.del (h : ∀ a xs, SqT B.K F a xs → SqT B.K F' a xs) : ∀ (ts : List T) (vs : List V), noLs ts → DVs B F vs ts → DVs B F' vs ts
  | [], _, _, q => by simp only [DVs] at q ⊢; exact q
  | t :: ts, _, n, q => by
    simp only [DVs] at q ⊢
    obtain ⟨v, r, e, q1, q2⟩ := q
    exact ⟨v, r, e, DV.del h t v n.1 q1, DVs.del h ts r n.2 q2⟩
end
end
theorem noLs_map {α : Type} {f : α → T} (h : ∀ a, noL (f a)) : ∀ xs : List α, noLs (xs.map f)
  | [] => trivial
  | x :: xs => ⟨h x, noLs_map h xs⟩
def OW.noL : OW → Prop
  | .lst ts => noLs ts
  | _ => False
def RT.noL : RT → Prop
  | .d t => DL.noL t
  | .new o => o.noL
/-- what is told of an argument: data, or a list or dict that a name owns -/
inductive AsO (δ : List SV) : SV → T → Prop
  | d {t : T} : AsO δ (.d t) t
  | o {a : Addr} {o : OW} {t : T} (j : Nat) (h : δ[j]? = some (.own a o)) (hf : o.fr = some t) : AsO δ (.ptr a) t
inductive AsOs (δ : List SV) : List SV → List T → Prop
  | nil : AsOs δ [] []
  | cons {s : SV} {t : T} {ss : List SV} {ts : List T} (h : AsO δ s t) (r : AsOs δ ss ts) : AsOs δ (s :: ss) (t :: ts)
section
variable {c : Cn} {δ : List SV} {Post : List SV → SV → Prop} {ta : TA} {E : XK}
theorem ow_notup {B : Bs} {F H : Hp} {a : Addr} {o : OW} (h : OwAt B F H a o) (xs : List V) (z : Rd H a (.tup xs)) : False := by
  cases o with
  | lst ts => obtain ⟨ys, h1, _⟩ := h; rcases z with z | ⟨o, z⟩ <;> rw [h1] at z <;> cases z
  | dK ks vs => obtain ⟨ys, h1, _⟩ := h; rcases z with z | ⟨o, z⟩ <;> rw [h1] at z <;> cases z
  | dN ks vs => obtain ⟨ys, h1, _⟩ := h; rcases z with z | ⟨o, z⟩ <;> rw [h1] at z <;> cases z
  | ins C dx ns ts => obtain ⟨ys, h1, _⟩ := h; rcases z with z | ⟨o, z⟩ <;> rw [h1] at z <;> cases z
  | lk ob es ks vs => rcases z with z | ⟨o, z⟩ <;> rw [h.1] at z <;> cases z
  | txs ks => rcases z with z | ⟨o, z⟩ <;> rw [show H a = _ from h] at z <;> cases z
theorem StF.own_of {F : Hp} {g : Addr → Option Loc} {σ : L2.St} {H : Hp} {ρ : List (V × SV)} (S : StF c F g σ H δ ρ) {a : Addr} {j : Nat} {o : OW} (h : δ[j]? = some (.own a o)) : g a = some (.slot j) ∧ c.H0 a = none ∧ OwAt c.B F H a o := (S.sl j _ h).2
/-- a call of a def of a mint (the caller's first argument) that reads lists and dicts of names -/
theorem ev_callMR {S : OW → List T → (OW → RT → Prop) → Prop} (h : EVA c ta δ fun δ1 rs => ∃ (a : Addr) (rs' : List SV) (ts : List T), rs = .ptr a :: rs' ∧ AsOs δ1 rs' ts ∧ ∃ (us : OW) (P : OW → RT → Prop), S us ts P ∧ δ1[0]? = some (.arg a us) ∧
    ∀ us' r, P us' r → us'.noL ∧ r.noL ∧ RTp Post (δ1.set 0 (.arg a us')) r) : EV c (tCall (spM c.B S) [] E ta) δ Post := fun σ H ρ Q S0 q =>
  h σ H ρ _ S0 fun vs H1 δ1 rs ⟨a, rs', ts, e, as, us, P, hS, hj, k⟩ hl S1 => by
    subst e
    match vs, hl, S1 with
    | v0 :: ws, hl, S1 =>
    obtain ⟨F, g, S1⟩ := S1
    have S1 : StF c F g σ H1 δ1 ((ρ ++ [(v0, .ptr a)]) ++ ws.zip rs') := by rw [List.append_assoc]; exact S1
    have S2 := S1.drop
    have e : v0 = .ref a := S2.last
    subst e
    have S3 := S2.drop
    obtain ⟨_, ga, ca, oa⟩ := S3.sl 0 _ hj
    have fa := (S3.gn a _ ga).1
    obtain ⟨u0, hx⟩ := oa.some
    obtain ⟨_, _, oH, hH⟩ := S3.an a ca
    -- what names own stands frozen for the call
    classical
    let own : Addr → Prop := fun b => ∃ (j : Nat) (o : OW), δ1[j]? = some (SV.own b o)
    have own_g : ∀ {b}, own b → ∃ j o, g b = some (.slot j) ∧ c.H0 b = none ∧ F b = none ∧ OwAt c.B F H1 b o := fun {b} ⟨j, o, hjo⟩ => by
      obtain ⟨h1, h2, h3⟩ := S3.own_of hjo
      exact ⟨j, o, h1, h2, (S3.gn b _ h1).1, h3⟩
    let F1 : Hp := fun b => if own b then H1 b else F b
    have f1o : ∀ {b}, own b → F1 b = H1 b := fun {b} h => if_pos h
    have f1n : ∀ {b}, ¬ own b → F1 b = F b := fun {b} h => if_neg h
    have nota : ¬ own a := fun h => by
      obtain ⟨_, _, _, h2, _⟩ := own_g h
      rw [h2] at hH; cases hH
    have ef : Ex F F1 := fun b o e => by
      by_cases h : own b
      · obtain ⟨_, _, _, _, h3, _⟩ := own_g h
        rw [h3] at e; cases e
      · rw [f1n h]; exact e
    have fh : Ex F1 H1 := fun b o e => by
      by_cases h : own b
      · rw [f1o h] at e; exact e
      · rw [f1n h] at e; exact S3.fh b o e
    have das : DVs c.B F1 ws ts := by
      have all : ∀ {ss : List SV} {us : List T} {vs : List V} {ρ : List (V × SV)}, AsOs δ1 ss us → vs.length = ss.length → StF c F g σ H1 δ1 (ρ ++ vs.zip ss) → DVs c.B F1 vs us := by
        intro ss us
        induction us generalizing ss with
        | nil =>
          intro vs ρ as hl _
          cases as
          have : vs = [] := List.length_eq_zero_iff.mp hl
          subst this; exact .nil
        | cons t us ih =>
          intro vs ρ as hl S
          cases as with
          | @cons s _ ss _ h r =>
            match vs, hl, S with
            | v :: vs, hl, S =>
            rw [List.zip_cons_cons] at S
            have S' : StF c F g σ H1 δ1 ((ρ ++ [(v, s)]) ++ vs.zip ss) := by rw [List.append_assoc]; exact S
            refine .cons ?_ (ih r (by simpa using hl) S')
            have ht : TempOk c F g H1 ρ.length (v, s) := S'.at
            cases h with
            | d => exact DV.any (B := c.B) (v := v) ht ef
            | @o b o _ j hjo hf =>
              obtain rfl : v = .ref b := ht
              obtain ⟨_, _, h3⟩ := S.own_of hjo
              obtain ⟨u, hu⟩ := h3.some
              exact ow_dv h3 hu ef (by rw [f1o ⟨j, o, hjo⟩]; exact hu) hf
      exact all as (by simpa using hl) S1
    refine ⟨F1, a, ws, us, ts, by rw [List.append_nil], fh, by rw [f1n nota]; exact fa, oa.mono ef rfl, das, P, hS, fun us' r v H' F' hp A => ?_⟩
    obtain ⟨n1, n2, k2⟩ := k us' r hp
    -- and is owned again
    let F2 : Hp := fun b => if own b then none else F' b
    have f2o : ∀ {b}, own b → F2 b = none := fun {b} h => if_pos h
    have f2n : ∀ {b}, ¬ own b → F2 b = F' b := fun {b} h => if_neg h
    have keepO : ∀ {b}, own b → F' b = H1 b := fun {b} h => by
      obtain ⟨_, _, _, _, _, h4⟩ := own_g h
      obtain ⟨u, hu⟩ := h4.some
      rw [A.fn b u hu, f1o h]
    have tups : ∀ b xs, SqT c.B.K F' b xs → SqT c.B.K F2 b xs := fun b xs z => by
      rcases z with z | z
      · by_cases h : own b
        · obtain ⟨_, _, _, _, _, h4⟩ := own_g h
          have e := keepO h
          exact (ow_notup h4 xs (by rcases z with z | ⟨o, z⟩
                                    · exact .inl (by rw [← e]; exact z)
                                    · exact .inr ⟨o, by rw [← e]; exact z⟩)).elim
        · refine .inl ?_
          rcases z with z | ⟨o, z⟩
          · exact .inl (by rw [f2n h]; exact z)
          · exact .inr ⟨o, by rw [f2n h]; exact z⟩
      · exact .inr z
    have ef2 : Ex F F2 := fun b o e => by
      by_cases h : own b
      · obtain ⟨_, _, _, _, h3, _⟩ := own_g h
        rw [h3] at e; cases e
      · rw [f2n h]; exact A.ef b o (by rw [f1n h]; exact e)
    have fn2 : ∀ b o, H1 b = some o → F2 b = F b := fun b o e => by
      by_cases h : own b
      · obtain ⟨_, _, _, _, h3, _⟩ := own_g h
        rw [f2o h, h3]
      · rw [f2n h, A.fn b o e, f1n h]
    obtain ⟨u1, hy⟩ := A.lst.some
    have fa2 : F2 a = none := by rw [f2n nota, A.fn a _ hx, f1n nota]; exact fa
    have fh2 : Ex F2 H' := fun b o e => by
      by_cases h : own b
      · rw [f2o h] at e; cases e
      · rw [f2n h] at e; exact A.fh b o e
    have lst2 : OwAt c.B F2 H' a us' := by
      cases us' with
      | lst xs => obtain ⟨ys, h1, h2⟩ := A.lst; exact ⟨ys, h1, DVs.del tups _ _ n1 h2⟩
      | _ => exact n1.elim
    have res2 : ResOk c.B F2 H1 H' v r := by
      cases r with
      | d t => exact DV.del tups t v n2 (show DV c.B F' v t from A.res)
      | new o =>
        obtain ⟨b, e, h1, h2, h3⟩ := A.res
        have nb : ¬ own b := fun h => by
          obtain ⟨_, _, _, _, _, h4⟩ := own_g h
          obtain ⟨u, hu⟩ := h4.some
          rw [h1] at hu; cases hu
        refine ⟨b, e, h1, by rw [f2n nb]; exact h2, ?_⟩
        cases o with
        | lst xs => obtain ⟨ys, h1, h2⟩ := h3; exact ⟨ys, h1, DVs.del tups _ _ n2 h2⟩
        | _ => exact n2.elim
    let H2 : Hp := fun b => if b = a then H1 a else H' b
    have e2a : H2 a = H1 a := if_pos rfl
    have e2n : ∀ {b}, b ≠ a → H2 b = H' b := fun {b} n => if_neg n
    have eh : Ex H1 H2 := fun b o e => by
      by_cases z : b = a
      · subst z; rw [e2a]; exact e
      · rw [e2n z]; exact A.eh b o z e
    have fh3 : Ex F2 H2 := fun b o e => by
      by_cases z : b = a
      · subst z; rw [fa2] at e; cases e
      · rw [e2n z]; exact fh2 b o e
    have S4 := S3.grow eh ef2 fh3 fn2
    have eU : upd H2 a u1 = H' := by
      funext b
      by_cases z : b = a
      · subst z; rw [upd_same, hy]
      · rw [upd_ne z, e2n z]
    have S5 := S4.updA (o' := us') (u := u1) hj (lst2.mono (Ex.refl F2) (by rw [eU]))
    rw [eU] at S5
    obtain ⟨s, k3, S6⟩ := S5.res S3.gnone S3.h0n res2 k2
    exact q v H' _ s k3 S6
end
end DL

namespace DL
open PySem L2
section
variable {c : Cn} {δ : List SV} {F : Hp} {g : Addr → Option Loc} {σ : L2.St} {H : Hp} {ρ : List (V × SV)} {a : Addr} {o : OW}
/-- what a slot owns goes to a temporary that points there -/
theorem StF.slotToTmp (S : StF c F g σ H δ ρ) {j n : Nat} {s : SV} (hj : δ[j]? = some (.own a o)) (hn : ρ[n]? = some (.ref a, s)) : StF c F (fun b => if b = a then some (.tmp n) else g b) σ H (δ.set j .no) (ρ.set n (.ref a, .own a o)) := by
  obtain ⟨h1, h2, h3⟩ := S.own_of hj
  refine ⟨S.fh, S.f0, S.fn, S.h0, by rw [List.length_set]; exact S.len, fun i s e => ?_, fun m q e => ?_, fun b l e => ?_, S.an⟩
  · by_cases hi : j = i
    · subst hi
      rw [List.getElem?_set_self (by have := (List.getElem?_eq_some_iff.mp hj).1; omega)] at e
      cases e; trivial
    · rw [List.getElem?_set_ne hi] at e
      exact (S.sl i s e).at a (by rw [h1]; intro z; injection z with z; injection z with z; exact hi z)
  · by_cases hm : n = m
    · subst hm
      rw [List.getElem?_set_self (by have := (List.getElem?_eq_some_iff.mp hn).1; omega)] at e
      cases e
      exact ⟨rfl, if_pos rfl, h2, h3⟩
    · rw [List.getElem?_set_ne hm] at e
      exact (S.tm m q e).at a (by rw [h1]; intro z; injection z with z; cases z)
  · by_cases q : b = a
    · subst q; exact S.gn b _ h1
    · rw [if_neg q] at e; exact S.gn b l e
open Classical in
/-- and from a temporary to a slot that it is stored in -/
theorem StF.tmpToSlot (S : StF c F g σ H δ ρ) {i n : Nat} {v : V} (hn : ρ[n]? = some (v, .own a o)) : StF c F (fun b => if b = a then some (.slot i) else if g b = some (.slot i) then none else g b) (σ.set i (some v)) H (δ.set i (.own a o)) (ρ.set n (v, .no)) := by
  obtain ⟨e1, h1, h2, h3⟩ := S.tm n _ hn
  have e1 : v = .ref a := e1
  refine ⟨S.fh, S.f0, S.fn, S.h0, by rw [List.length_set, List.length_set]; exact S.len, fun k s e => ?_, fun m q e => ?_, fun b l e => ?_, S.an⟩
  · by_cases hk : i = k
    · subst hk
      have hi : i < δ.length := by have := (List.getElem?_eq_some_iff.mp e).1; simpa using this
      rw [List.getElem?_set_self hi] at e
      cases e
      rw [List.getElem?_set_self (by rw [S.len]; exact hi)]
      exact ⟨by rw [e1]; rfl, if_pos rfl, h2, h3⟩
    · rw [List.getElem?_set_ne hk] at e
      rw [List.getElem?_set_ne hk]
      refine (S.sl k s e).mono (Ex.refl F) (fun b hb => ?_) (fun _ _ => rfl)
      have n1 : b ≠ a := fun z => by rw [z, h1] at hb; cases hb
      rw [if_neg n1, if_neg (by rw [hb]; intro z; injection z with z; injection z with z; exact hk z.symm)]
      exact hb
  · by_cases hm : n = m
    · subst hm
      rw [List.getElem?_set_self (by have := (List.getElem?_eq_some_iff.mp hn).1; omega)] at e
      cases e; trivial
    · rw [List.getElem?_set_ne hm] at e
      refine (S.tm m q e).mono (Ex.refl F) (fun b hb => ?_) (fun _ _ => rfl)
      have n1 : b ≠ a := fun z => by
        rw [z, h1] at hb
        injection hb with hb; injection hb with hb
        exact hm hb
      rw [if_neg n1, if_neg (by rw [hb]; intro z; cases z)]
      exact hb
  · by_cases q : b = a
    · subst q; exact S.gn b _ h1
    · rw [if_neg q] at e
      by_cases q2 : g b = some (.slot i)
      · rw [if_pos q2] at e; cases e
      · rw [if_neg q2] at e; exact S.gn b l e
end
section
variable {c : Cn} {δ : List SV} {R : DEnds} {ta : TA} {tb : TS}
/-- for x in (xs, .., ..): the first a list of a name, the others new ones; each turn owns its list -/
theorem es_forOwn {i : Nat} (h : EVA c ta δ fun δ1 rs => ∃ (a1 : Addr) (o1 : OW) (j : Nat) (a2 : Addr) (o2 : OW) (a3 : Addr) (o3 : OW), rs = [.ptr a1, .own a2 o2, .own a3 o3] ∧ δ1[j]? = some (.own a1 o1) ∧ ∃ (I : List SV → Prop) (C : OW → Prop), C o1 ∧ C o2 ∧ C o3 ∧ I (δ1.set j .no) ∧
    (∀ δ a o, I δ → C o → ES c tb (δ.set i (.own a o)) { R with nx := I, ct := I, bk := R.nx }) ∧ ∀ δ, I δ → R.nx δ) : ES c (tFor (iTup c.B.K (tTup ta)) (gName i) tb) δ R := fun σ H ρ D S M =>
  h σ H ρ _ S fun vs H1 δ1 rs ⟨a1, o1, j, a2, o2, a3, o3, e, hj, I, C, c1, c2, c3, h0, hs, hd⟩ hl S1 => by
    subst e
    match vs, hl, S1 with
    | [v1, v2, v3], hl, S1 =>
    obtain ⟨F, g, S1⟩ := S1
    have S1 : StF c F g σ H1 δ1 (ρ ++ [(v1, .ptr a1), (v2, .own a2 o2), (v3, .own a3 o3)]) := S1
    have t0 : TempOk c F g H1 (ρ.length + 0) (v1, .ptr a1) := S1.tm _ _ (by rw [List.getElem?_append_right (by omega)]; simp)
    have e1 : v1 = .ref a1 := t0
    subst e1
    obtain ⟨e2, _⟩ := S1.tm (ρ.length + 1) (v2, .own a2 o2) (by rw [List.getElem?_append_right (by omega)]; simp)
    have e2 : v2 = .ref a2 := e2
    subst e2
    obtain ⟨e3, _⟩ := S1.tm (ρ.length + 2) (v3, .own a3 o3) (by rw [List.getElem?_append_right (by omega)]; simp)
    have e3 : v3 = .ref a3 := e3
    subst e3
    have S2 := S1.slotToTmp (n := ρ.length) (s := .ptr a1) hj (by rw [List.getElem?_append_right (by omega)]; simp)
    have eρ : (ρ ++ [(V.ref a1, SV.ptr a1), (V.ref a2, .own a2 o2), (V.ref a3, .own a3 o3)]).set ρ.length (V.ref a1, .own a1 o1) = ρ ++ [(V.ref a1, .own a1 o1), (V.ref a2, .own a2 o2), (V.ref a3, .own a3 o3)] := by
      rw [List.set_append_right _ _ (by omega)]; simp
    rw [eρ] at S2
    refine ⟨show 3 ≤ sizeLine by decide +kernel, fun p hp => ?_⟩
    obtain ⟨S3, ef⟩ := S2.newTup (u := .tup [.ref a1, .ref a2, .ref a3]) hp
    let xs : List V := [.ref a1, .ref a2, .ref a3]
    let rw' : List T := [.raw (.ref a1), .raw (.ref a2), .raw (.ref a3)]
    have dx : ∀ F, DVs c.B F xs rw' := fun F => .cons (by simp only [DV]) (.cons (by simp only [DV]) (.cons (by simp only [DV]) .nil))
    let tm : Nat → List (V × SV) := fun k => [(.ref a1, if k < 1 then .own a1 o1 else .no), (.ref a2, if k < 2 then .own a2 o2 else .no), (.ref a3, if k < 3 then .own a3 o3 else .no)]
    have S4 : StF c (upd F p (.tup [.ref a1, .ref a2, .ref a3])) _ σ (upd H1 p (.tup [.ref a1, .ref a2, .ref a3])) (δ1.set j .no) ((ρ ++ tm 0) ++ [(.ref p, .tv xs rw')]) := S3.push ⟨p, rfl, SqT.of upd_same, dx _⟩
    refine ⟨p, rfl, ⟨xs, SqT.of upd_same⟩, ?_⟩
    refine for_tup (xs := xs) (fun k σ H => ∃ δ, I δ ∧ St c σ H δ ((ρ ++ tm k) ++ [(.ref p, .tv xs rw')])) ⟨_, h0, _, _, S4⟩ (fun k σ H _ ⟨δ, _, F, g, S⟩ => ?_) ?_ ?_
    · obtain ⟨b, e, hx, _⟩ := S.last
      cases e; exact S.fh.sqt hx
    · rintro k x σ2 H2 hk ⟨δ2, k2, F2, g2, S5⟩
      have turn : ∀ (n : Nat) (a : Addr) (o : OW), x = .ref a → C o → ((ρ ++ tm k) ++ [(V.ref p, SV.tv xs rw')])[n]? = some (.ref a, .own a o) → (((ρ ++ tm k) ++ [(V.ref p, SV.tv xs rw')]).set n (V.ref a, .no) = (ρ ++ tm (k + 1)) ++ [(V.ref p, SV.tv xs rw')]) → gName i x σ2 H2 (tb { D with nx := fun σ H => ∃ δ, I δ ∧ St c σ H δ ((ρ ++ tm (k + 1)) ++ [(V.ref p, SV.tv xs rw')]), ct := fun σ H => ∃ δ, I δ ∧ St c σ H δ ((ρ ++ tm (k + 1)) ++ [(V.ref p, SV.tv xs rw')]), bk := D.nx }) := by
        rintro n a o rfl co hn hset
        have S6 := S5.tmpToSlot (i := i) hn
        rw [hset] at S6
        have M' := M.turn (ρ' := tm (k + 1) ++ [(V.ref p, SV.tv xs rw')]) (I := I) (N := fun σ H => ∃ δ, I δ ∧ St c σ H δ ((ρ ++ tm (k + 1)) ++ [(V.ref p, SV.tv xs rw')])) fun σ H δ kk S => ⟨δ, kk, by rw [List.append_assoc]; exact S⟩
        rw [← List.append_assoc] at M'
        exact hs δ2 a o k2 co _ _ _ _ ⟨_, _, S6⟩ M'
      have hk3 : k = 0 ∨ k = 1 ∨ k = 2 := by
        have := (List.getElem?_eq_some_iff.mp hk).1
        have : k < 3 := this
        omega
      rcases hk3 with rfl | rfl | rfl
      · refine turn ρ.length a1 o1 (by injection hk with hk; exact hk.symm) c1 ?_ ?_
        · rw [List.append_assoc, List.getElem?_append_right (by omega)]; simp [tm]
        · rw [List.append_assoc, List.set_append_right _ _ (by omega)]; simp [tm]
      · refine turn (ρ.length + 1) a2 o2 (by injection hk with hk; exact hk.symm) c2 ?_ ?_
        · rw [List.append_assoc, List.getElem?_append_right (by omega)]; simp [tm]
        · rw [List.append_assoc, List.set_append_right _ _ (by omega)]; simp [tm]
      · refine turn (ρ.length + 2) a3 o3 (by injection hk with hk; exact hk.symm) c3 ?_ ?_
        · rw [List.append_assoc, List.getElem?_append_right (by omega)]; simp [tm]
        · rw [List.append_assoc, List.set_append_right _ _ (by omega)]; simp [tm]
    · rintro σ2 H2 ⟨δ2, k2, S5⟩
      exact M.nx σ2 H2 δ2 (hd δ2 k2) S5.drop.drop
end
/-! ### a method with one keyword -/
def g11 {α : Type} : List α → List α → List α
  | [a], [b] => [a, b]
  | _, _ => []
theorem kb11 {K : PySem.W.Frag} {x qual : Str} {st : Stmt} {f : Addr} {fd : FuncData} {p1 p2 : Str} (F : Fun K x qual st f fd)
    (h : ∀ (kV doc pm : Value) (an : Option Addr) (cdv ct : Value) (u w : Value), bindArgs (PySem.W.fnOf x qual (defArgs st) (defBody st) (defScope st) .none kV doc pm an cdv ct) ⟨[u], [(p2, w)]⟩ = pure [(p1, u), (p2, w)]) : KBinds K fd [p1, p2] [p2] g11 g11 := by
  obtain ⟨oc, od, kV, doc, pm, an, cdv, ct, osl, rfl, lk, hcd⟩ := F.ex
  constructor
  · intro s us ws _ hl
    match us, ws, hl with
    | [u], [w], _ => exact .of_eq (h kV doc pm an cdv ct u w)
    | [], _, hl => cases hl
    | [_], [], hl => cases hl
    | [_], _ :: _ :: _, hl => cases hl
    | _ :: _ :: _, _, hl => cases hl
  · intro vs us zs ws r rz
    match vs, us, r with
    | [v], [u], r =>
      match zs, ws, rz with
      | [z], [w], rz =>
        cases r with
        | cons r1 _ => cases rz with
          | cons r2 _ => exact .cons r1 (.cons r2 .nil)
      | [], _, rz => cases rz; exact .nil
      | _ :: _ :: _, _, rz =>
        cases rz with
        | cons _ r => cases r; exact .nil
    | [], _, r => cases r; exact .nil
    | _ :: _ :: _, _, r =>
      cases r with
      | cons _ r => cases r; exact .nil
end DL

namespace DL
open PySem L2
section
variable {c : Cn} {δ : List SV} {Post : List SV → SV → Prop} {E : XK}
/-- what a list or dict of a name reads as -/
theorem ow_dp {B : Bs} {F H : Hp} {a : Addr} {ts : List T} {d : List PyData} (fh : Ex F H) (h : OwAt B F H a (.lst ts)) (hd : T.pys ts = some d) : Dp B.K H (.ref a) (.list d) := by
  obtain ⟨xs, h1, h2⟩ := h
  exact .lst (SqL.of h1) (DpAll.mono fh _ _ (DVs.dp _ _ _ h2 hd))
/-- a list that a name owns, and data -/
theorem o2_neO {a : Addr} {ts : List T} {ds : List PyData} {u : T} {e : PyData} (ow : Owns δ a (.lst ts)) (h1 : T.pys ts = some ds) (h2 : u.py = some e) (s1 : SeqAt.shaped (.list ds) = true) (s2 : SeqAt.shaped e = true) {b : Bool} (hb : PyData.eqv (.list ds) e = b) (k : Post δ (.d (.bl (!b)))) : OP2 c (rNeD c.B.K) δ (.ptr a) (.d u) Post := fun σ H ρ x y Q S q => by
  obtain ⟨F, g, S2, hx, hy⟩ := S.top2
  have hx : x = .ref a := hx
  subst hx
  have hy : DV c.B F y u := hy
  refine ⟨.list ds, e, ow_dp S2.fh (S2.owned ow) h1, Dp.mono S2.fh _ _ (DV.dp _ _ _ hy h2), s1, s2, ?_⟩
  rw [hb]
  exact q _ H δ _ k (St.flat ⟨F, g, S2⟩ (t := .bl (!b)) rfl)
/-- o.m(k = e) of an instance that is data -/
theorem ev_methRK {S : List T → (RT → Prop) → Prop} {m : Str} {C : Addr} {ns : List Str} {us : List T} {te tx : TE} (hm : ∀ n ∈ ns, (m == n) = false) (h : EV c te δ fun δ1 r => r = .d (.obj C ns us) ∧ EV c tx δ1 fun δ2 r2 => ∃ s2, Pu r2 s2 ∧ ∃ t, AsD δ2 s2 t ∧ S [.obj C ns us, t] fun r => ∃ t, r = .d t ∧ flatT t ∧ Post δ2 (.d t)) :
    EV c (tMethK C m (spP c.B S) g11 E te (tCons tx tNil)) δ Post := fun σ H ρ Q S0 q =>
  h σ H ρ _ S0 fun x H1 δ1 r ⟨e, k⟩ ⟨F, g, S1, hv⟩ => by
    subst e
    have hv0 : DV c.B F x (.obj C ns us) := hv
    have hv : DV c.B F x (.obj C ns us) := hv
    simp only [DV] at hv
    obtain ⟨a, dx, fs, rfl, ha, hns, hd⟩ := hv
    have hlk : fs.lookup m = none := by
      rw [← hns] at hm
      clear ha hns hd hv0 S1
      induction fs with
      | nil => rfl
      | cons p fs ih =>
        obtain ⟨n, v⟩ := p
        rw [List.lookup_cons, hm n List.mem_cons_self]
        exact ih fun n hn => hm n (List.mem_cons_of_mem _ hn)
    refine ⟨a, dx, fs, rfl, S1.fh _ _ ha, hlk, ?_⟩
    refine k σ H1 (ρ ++ [(.ref a, .d (.obj C ns us))]) _ ⟨F, g, S1.push (p := (V.ref a, SV.d (.obj C ns us))) hv0⟩ fun y H2 δ2 r2 ⟨s2, pu, t, as, hS⟩ S2 => ?_
    have S3 := S2.put pu
    rw [List.append_assoc] at S3
    show spP c.B S ([.ref a, y] ++ []) H2 Q E
    exact callR_core (vs := [.ref a, y]) (rs := [.d (.obj C ns us), s2]) (.cons .d (.cons as .nil)) hS (by rfl) S3 q
/-- a call of a def where no repr is under way: as any call -/
theorem show_bls (bs : List Bool) (h : bs.length ≤ 100) : ShowOk (.list (bs.map .bool)) := by
  refine ⟨PyData.showableAll_bools bs, ?_, ?_, ?_⟩
  · simp only [PyData.hasDict]
    induction bs with
    | nil => rfl
    | cons b bs ih =>
      rw [List.map_cons, PyData.hasDictAll, ih (by rw [List.length_cons] at h; omega)]; rfl
  · refine Nat.le_trans (PyData.shown_le 13 (by decide) (.list (bs.map .bool)) ?_) ?_
    · simp only [PyData.leavesShort]
      clear h
      induction bs with
      | nil => rfl
      | cons b bs ih => rw [List.map_cons, PyData.leavesShortAll, ih]; cases b <;> decide +kernel
    · have hw : (PyData.list (bs.map .bool)).weight ≤ 2 * bs.length + 2 := by
        simp only [PyData.weight]
        clear h
        induction bs with
        | nil => simp [PyData.weightAll]
        | cons b bs ih =>
          rw [List.map_cons, PyData.weightAll, List.length_cons]
          have : (PyData.bool b).weight ≤ 1 := by simp [PyData.weight]
          omega
      have : (10000 : Nat) ≤ sizeLine := by decide +kernel
      omega
  · rw [PyData.depth]
    have : PyData.depthAll (bs.map .bool) = 0 := by
      clear h
      induction bs with
      | nil => rfl
      | cons b bs ih => rw [List.map_cons, PyData.depthAll, ih]; simp [PyData.depth]
    omega
end
end DL

namespace DL
open PySem L2
section
variable {c : Cn} {δ : List SV} {Post : List SV → SV → Prop}
/-- what may be told of a value that is stored in a name -/
inductive Pop : SV → Prop
  | d {t : T} : Pop (.d t)
  | own {a : Addr} {o : OW} : Pop (.own a o)
  | ptr {a : Addr} : Pop (.ptr a)
  | no : Pop .no
theorem St.pop {σ : L2.St} {H : Hp} {ρ : List (V × SV)} {v : V} {s : SV} (p : Pop s) (S : St c σ H δ (ρ ++ [(v, s)])) : St1 c σ H δ ρ v s := by
  cases p with
  | own => exact S.popO
  | d => obtain ⟨F, g, S⟩ := S; exact ⟨F, g, S.drop, S.last⟩
  | ptr => obtain ⟨F, g, S⟩ := S; exact ⟨F, g, S.drop, S.last⟩
  | no => obtain ⟨F, g, S⟩ := S; exact ⟨F, g, S.drop, trivial⟩
/-- a, b = x, y -/
theorem es_parG {i j : Nat} {ta : TA} {R : DEnds} (hij : i ≠ j) (h : EVA c ta δ fun δ1 rs => ∃ s1 s2, rs = [s1, s2] ∧ Pop s1 ∧ Pop s2 ∧ R.nx ((δ1.set i s1).set j s2)) : ES c (tPar i j ta) δ R := fun σ H ρ D S M =>
  h σ H ρ _ S fun vs H1 δ1 rs ⟨s1, s2, e, p1, p2, k⟩ hl S1 => by
    subst e
    match vs, hl, S1 with
    | [v, w], hl, S1 =>
      have S1 : St c σ H1 δ1 ((ρ ++ [(v, s1)]) ++ [(w, s2)]) := by rw [List.append_assoc]; exact S1
      refine ⟨v, w, rfl, M.nx _ _ _ k ?_⟩
      have S2 : St c (σ.set j (some w)) H1 (δ1.set j s2) (ρ ++ [(v, s1)]) := (S1.pop p2).store
      have S3 : St c ((σ.set j (some w)).set i (some v)) H1 ((δ1.set j s2).set i s1) ρ := (S2.pop p1).store
      rw [List.set_comm _ _ (Ne.symm hij), List.set_comm _ _ (Ne.symm hij)] at S3
      exact S3
/-- a, b, c = x, y, z -/
theorem es_par3G {i j l : Nat} {ta : TA} {R : DEnds} (hij : i ≠ j) (hil : i ≠ l) (hjl : j ≠ l) (h : EVA c ta δ fun δ1 rs => ∃ s1 s2 s3, rs = [s1, s2, s3] ∧ Pop s1 ∧ Pop s2 ∧ Pop s3 ∧ R.nx (((δ1.set i s1).set j s2).set l s3)) : ES c (tPar3 i j l ta) δ R := fun σ H ρ D S M =>
  h σ H ρ _ S fun vs H1 δ1 rs ⟨s1, s2, s3, e, p1, p2, p3, k⟩ hl S1 => by
    subst e
    match vs, hl, S1 with
    | [v, w, y], hl, S1 =>
      have S1 : St c σ H1 δ1 (((ρ ++ [(v, s1)]) ++ [(w, s2)]) ++ [(y, s3)]) := by rw [List.append_assoc, List.append_assoc]; exact S1
      refine ⟨v, w, y, rfl, M.nx _ _ _ k ?_⟩
      have S2 := (S1.pop p3).store (i := l)
      have S3 := (S2.pop p2).store (i := j)
      have S4 := (S3.pop p1).store (i := i)
      have e1 : ∀ {α : Type} (xs : List α) (a b c : α), ((xs.set l c).set j b).set i a = ((xs.set i a).set j b).set l c := fun xs a b c => by
        rw [List.set_comm _ _ (Ne.symm hjl), List.set_comm _ _ (Ne.symm hil), List.set_comm _ _ (Ne.symm hij)]
      rw [e1, e1] at S4
      exact S4
theorem o1_neg {i : Int} (k : Post δ (.d (.int (-i)))) : OP1 c (rU fun i => .int (-i)) δ (.d (.int i)) Post := fun σ H ρ x Q S q => by
  obtain ⟨F, g, S2, h⟩ := S.top1
  exact ⟨i, DV.int_ (B := c.B) (F := F) h, q _ H δ _ k (St.flat ⟨F, g, S2⟩ (t := .int (-i)) rfl)⟩
/-- enumerate of a list that a name owns -/
theorem ei_EO {ta : TA} {P : List SV → (List SV → Prop) → List T → Prop} (h : EVA c ta δ fun δ1 rs => ∃ a ts, rs = [.ptr a] ∧ Owns δ1 a (.lst ts) ∧ P δ1 (fun δ => Owns δ a (.lst ts)) (enumT ts)) : EVI c (iEnum c.B.K ta) δ P := fun σ H ρ R S q =>
  h σ H ρ _ S fun vs H1 δ1 rs ⟨a, ts, e, ow, k⟩ hl S1 => by
    subst e
    obtain ⟨v, rfl, S9⟩ := S1.arg1 hl
    obtain ⟨F, gg, S2, hv⟩ := S9.top1
    obtain rfl : v = .ref a := hv
    clear S9
    have get : ∀ {σ : L2.St} {H : Hp} {δ : List SV} {ρ' : List (V × SV)}, Owns δ a (.lst ts) → St c σ H δ ρ' → ∃ xs F gg, StF c F gg σ H δ ρ' ∧ H a = some (.lst xs) ∧ DVs c.B F xs ts := fun ow ⟨F, gg, S⟩ => by
      obtain ⟨xs, h1, h2⟩ := S.owned ow
      exact ⟨xs, F, gg, S, h1, h2⟩
    obtain ⟨xs0, h1, h2⟩ := S2.owned ow
    refine ⟨a, xs0, rfl, SqL.of h1, q (Ite c.B.K a) H1 δ1 (.ref a, .ptr a) _ _ k ⟨?_, ?_, ?_⟩ ⟨F, gg, S2.push rfl⟩⟩
    · intro i σ H δ ρ' hi o S
      obtain ⟨xs, F, gg, S, g1, g2⟩ := get o S
      rw [enumT_len, ← g2.length] at hi
      exact ⟨xs, xs[i], SqL.of g1, by simp [hi]⟩
    · rintro i σ H H' δ ρ' y hi o S ⟨p, x, rfl, hp, rfl, hh⟩
      obtain ⟨xs, F, gg, S, g1, g2⟩ := get o S
      have hxi := hh xs (SqL.of g1)
      obtain ⟨t, ht, hxt⟩ := g2.get' hxi
      refine ⟨.tup [.int (i : Nat), t], ?_, ?_⟩
      · have := get_map2 (fun n t => T.tup [.int (n : Nat), t]) ts i 0 t ht
        rw [Nat.zero_add] at this
        exact this
      · obtain ⟨S3, e3⟩ := S.newTup (u := .tup [.int (i : Nat), x]) hp
        refine ⟨_, gg, S3, ?_⟩
        exact DV.tup_ (SqT.of upd_same) (.cons (by simp only [DV]) (.cons (hxt.any e3) .nil))
    · intro σ H δ ρ' o S
      obtain ⟨xs, F, gg, S, g1, g2⟩ := get o S
      exact ⟨xs, SqL.of g1, by rw [enumT_len, ← g2.length]; exact Nat.le_refl _⟩
end
/-! ### pairs of numbers, or of None, as keys -/
def optE : Option Int → T
  | none => .non
  | some i => .int i
def optN : Option Int → NestedKey
  | none => .none
  | some i => .num i
def pairE : KeyEnc (Option Int × Option Int) where
  ek := fun k => .tup [optE k.1, optE k.2]
  en := fun k => .tup [optN k.1, optN k.2]
  nk := fun k => by
    obtain ⟨a, b⟩ := k
    cases a <;> cases b <;> simp [optE, optN, T.nk, T.nks]
  inj := fun a b h => by
    obtain ⟨a1, a2⟩ := a
    obtain ⟨b1, b2⟩ := b
    cases a1 <;> cases a2 <;> cases b1 <;> cases b2 <;> simp [optN] at h ⊢ <;> first | exact h | exact ⟨h.1, h.2⟩
  depth := fun a => by
    obtain ⟨a, b⟩ := a
    cases a <;> cases b <;> simp [optN, NestedKey.depth, NestedKey.depthAll]
  tup := fun a => ⟨_, rfl⟩
end DL

namespace DL
open PySem L2 PySem.Spec PyProof.Rows

/-! ### operators of instances of an own class -/
section
variable {X : Cx} {k : Nat} {f C : Addr} {fd : FuncData} {ps : List Str} {sp : Sp}
theorem run_at {A' : Around} (hA : A'.frames = X.A.frames) (F : FnOk X.prog X.w X.K X.mg X.base CX0 k f fd ps sp) (room : L2.Room k A') (bd : Binds X.K fd ps []) {pins : List (Addr × Obj)} {σ : L2.St} {H : Hp} {s : Shared} {Q : VK} {us : List Value} {vs : List V}
    (I : Inv X pins σ H s) (r : Vals vs us) (want : sp vs H Q E0) : wpAny (model X.prog X.w) A' (call (.ref f) us) (EP X pins σ Q) X.xe s := by
  have hl : us.length = ps.length := r.length.symm.trans (F.len _ _ _ _ want)
  have b0 := bd s us I.kIn (by simpa using hl)
  rw [List.append_nil] at b0
  have g := I.env0
  have ground : Env0 X.prog X.w X.K X.mg X.base A' X.stack s H := ⟨hA.trans g.frames, g.mod, g.bs, g.bsz, g.funs, g.frf, g.hok, g.bare⟩
  refine wpAny_call (codeAny_mono (F.run A' X.stack s H ⟨us, []⟩ us vs Q E0 room ground b0 r want) ?_)
  rintro (e | _ | _ | _ | u) s2 z
  · exact (show False from z).elim
  · exact (show False from z).elim
  · exact (show False from z).elim
  · exact (show False from z).elim
  · exact I.after z
theorem cmpBack_of {w : V} {u : Value} {Q : Value → Shared → Prop} {s : Shared} (rel : RelV w u) (h : Q u s) : PySem.W.CmpBack Q u s := by
  cases w <;> first | (obtain ⟨t, rfl⟩ := rel; exact h) | (cases rel; exact h)
/-- an own method by its name, as operators look it up -/
structure OwnM (K : PySem.W.Frag) (C : Addr) (m : Str) (f : Addr) : Prop where
  at_ : PySem.W.findIn K (.ref C) m = some (some (.ref f))
  fn : PySem.W.isFn K (.ref f) = true
def rBin (C : Addr) (sp : Sp) : R2 := fun x y H Q => ∃ a dx fs b dy gs, x = .ref a ∧ y = .ref b ∧ H a = some (.ins C dx fs) ∧ H b = some (.ins C dy gs) ∧ sp [.ref a, .ref b] H Q E0
theorem op_own {op : Operator} (F : FnOk X.prog X.w X.K X.mg X.base CX0 k f fd ps sp) (room : L2.Room k X.A) (bd : Binds X.K fd ps []) (hc : PySem.W.selfFirst X.K C = true) (M : OwnM X.K C (PySem.dunder op.info.2) f) : OpR X (binaryOp op) (rBin C sp) := by
  intro pins s σ H x y u v Q I rx ry h
  obtain ⟨a, dx, fs, b, dy, gs, rfl, rfl, ha, hb, want⟩ := h
  cases rx
  cases ry
  obtain ⟨_, J, _⟩ := ins_get I.hok ha
  obtain ⟨_, J', _⟩ := ins_get I.hok hb
  obtain ⟨_, J, _⟩ := J.look
  obtain ⟨_, J', _⟩ := J'.look
  obtain ⟨m, hF⟩ := I.fr
  refine PySem.W.binop_K hF I.ok.mod.kin J J'.type hc M.at_ M.fn ?_
  refine wpAny_mono (run_at rfl F room bd I (vs := [.ref a, .ref b]) (us := [.ref a, .ref b]) (.cons rfl (.cons rfl .nil)) want) ?_ fun _ _ z => z
  rintro r s2 ⟨w, H2, J2, rel, q⟩
  exact cmpBack_of rel (⟨w, H2, J2, rel, q⟩ : EP X pins σ Q r s2)
def rUno (C : Addr) (sp : Sp) : V → Hp → VK → Prop := fun x H Q => ∃ a dx fs, x = .ref a ∧ H a = some (.ins C dx fs) ∧ sp [.ref a] H Q E0
theorem un_inv (F : FnOk X.prog X.w X.K X.mg X.base CX0 k f fd ps sp) (room : L2.Room k X.A) (bd : Binds X.K fd ps []) (M : OwnM X.K C "__invert__" f) : UnR X (unaryOp .Invert) (rUno C sp) := by
  intro pins s σ H x u Q I rx h
  obtain ⟨a, dx, fs, rfl, ha, want⟩ := h
  cases rx
  obtain ⟨_, J, _⟩ := ins_get I.hok ha
  obtain ⟨_, J, _⟩ := J.look
  obtain ⟨m, hF⟩ := I.fr
  exact PySem.W.ksp_inv hF I.ok.mod.kin J M.at_ M.fn (run_at rfl F room bd I (vs := [.ref a]) (us := [.ref a]) (.cons rfl .nil) want)
def rLenO (C : Addr) (sp : Sp) : List V → Hp → VK → Prop := fun xs H Q => ∃ a dx fs, xs = [.ref a] ∧ H a = some (.ins C dx fs) ∧ sp [.ref a] H (fun v H' => ∃ n : Int, v = .int n ∧ 0 ≤ n ∧ n < 2 ^ 63 ∧ Q (.int n) H') E0
theorem call_lenO (F : FnOk X.prog X.w X.K X.mg X.base CX0 k f fd ps sp) (room : L2.Room (k + 1) X.A) (bd : Binds X.K fd ps []) (M : OwnM X.K C "__len__" f) : CallR X (.builtin "len") (rLenO C sp) := by
  intro pins s σ H xs us Q I r h
  obtain ⟨a, dx, fs, rfl, ha, want⟩ := h
  obtain ⟨u, rfl, rx⟩ := vals1 r
  cases rx
  obtain ⟨_, J, _⟩ := ins_get I.hok ha
  obtain ⟨_, J, _⟩ := J.look
  obtain ⟨m, hF⟩ := I.fr
  refine PySem.W.len_K hF I.ok.mod.kin J M.at_ M.fn (wpAny_mono (run_at (A' := X.A.in1) rfl F room.in1 bd I (vs := [.ref a]) (us := [.ref a]) (.cons rfl .nil) want) ?_ fun _ _ z => z)
  rintro r s2 ⟨w, H2, J2, rel, n, rfl, h0, h1, q⟩
  obtain ⟨t, rfl⟩ := rel
  exact ⟨⟨h0, h1⟩, (⟨.int n, H2, J2.tok _, ⟨_, rfl⟩, q⟩ : EP X pins σ Q _ _)⟩
/-! == and != -/
def rCmp (C : Addr) (sp : Sp) (neg : Bool) : R2 := fun x y H Q => ∃ a dx fs b dy gs, x = .ref a ∧ y = .ref b ∧ H a = some (.ins C dx fs) ∧ H b = some (.ins C dy gs) ∧ sp [.ref a, .ref b] H (fun v H' => ∃ t : Bool, v = .bl t ∧ Q (.bl (if neg then !t else t)) H') E0
theorem op_eqO (F : FnOk X.prog X.w X.K X.mg X.base CX0 k f fd ps sp) (room : L2.Room k X.A) (bd : Binds X.K fd ps []) (M : OwnM X.K C "__eq__" f) : OpR X (compareOp .Eq) (rCmp C sp false) := by
  intro pins s σ H x y u v Q I rx ry h
  obtain ⟨a, dx, fs, b, dy, gs, rfl, rfl, ha, hb, want⟩ := h
  cases rx
  cases ry
  obtain ⟨_, J, _⟩ := ins_get I.hok ha
  obtain ⟨_, J', _⟩ := ins_get I.hok hb
  obtain ⟨_, J, _⟩ := J.look
  obtain ⟨_, J', _⟩ := J'.look
  obtain ⟨m, hF⟩ := I.fr
  show wpAny (model X.prog X.w) X.A (richCompare .Eq (.ref a) (.ref b)) _ _ _
  refine PySem.W.cmp_K (op := .Eq) (tb := .ref C) room.units0 hF I.ok.mod.kin J J'.type (by simp [PySem.W.notFirst]) M.at_ M.fn ?_
  refine wpAny_mono (run_at rfl F room bd I (vs := [.ref a, .ref b]) (us := [.ref a, .ref b]) (.cons rfl (.cons rfl .nil)) want) ?_ fun _ _ z => z
  rintro r s2 ⟨w, H2, J2, rel, t, rfl, q⟩
  obtain rfl : r = .bool t := rel
  exact (⟨.bl t, H2, J2, rfl, q⟩ : EP X pins σ Q _ s2)
theorem ne_entry {M : Model} {A : Around} {E : Value → Shared → Prop} {s : Shared} {K : PySem.W.Frag} {x : Addr} {b : Value} {ox : Obj} {od : Option Obj} {Q : Fin → Shared → Prop} (inK : K.In s.heap) (J : PySem.W.InstAt s.heap x ox C od) (N : OwnM K C "__eq__" f) (hu : A.units < cLine)
    (h : wpAny M A (call (.ref f) [.ref x, b]) (fun v s' => ∃ t : Bool, v = .bool t ∧ Q (.done (.ret (.bool (!t)))) s') E s) : wpAny M A (Builtin.«object.__ne__» ⟨[.ref x, b], []⟩) Q E s := by
  unfold Builtin.«object.__ne__»
  repeat (first
    | with_reducible refine wpAny_cRoomFor hu ?_
    | (refine wpAny_bind (m := callSpecialIfBound? (.ref x) (Str.ofString "__eq__") [b]) (PySem.W.ifBound_K inK J N.at_ N.fn (wpAny_mono h (fun r s' z => ?_) fun _ _ e => e)); obtain ⟨t, rfl, z⟩ := z)
    | exact z
    | exact wpAny_pure z
    | exact wpAny_truthy_bool z
    | (refine wpAny_bind (m := truthy (.bool _)) (wpAny_truthy_bool ?_))
    | wp_step)
theorem op_neO (F : FnOk X.prog X.w X.K X.mg X.base CX0 k f fd ps sp) (room : L2.Room (k + 1) X.A) (bd : Binds X.K fd ps []) (M : OwnM X.K C "__eq__" f) (hne : PySem.W.findIn X.K (.ref C) "__ne__" = some (some (.builtin "object.__ne__"))) (hm : PySem.W.mroIn X.K C (.type "object") = some true) : OpR X (compareOp .NotEq) (rCmp C sp true) := by
  intro pins s σ H x y u v Q I rx ry h
  obtain ⟨a, dx, fs, b, dy, gs, rfl, rfl, ha, hb, want⟩ := h
  cases rx
  cases ry
  obtain ⟨_, J, _⟩ := ins_get I.hok ha
  obtain ⟨_, J', _⟩ := ins_get I.hok hb
  obtain ⟨_, J, _⟩ := J.look
  obtain ⟨_, J', _⟩ := J'.look
  have inK := I.kIn
  have hu1 : X.A.in1.units < cLine := room.in1.units0
  -- object.__ne__ asks __eq__
  have core : wpAny (model X.prog X.w) X.A (call (.builtin "object.__ne__") [.ref a, .ref b]) (fun v s' => EP X pins σ Q v s' ∧ v ≠ .notImplemented) X.xe s := by
    refine wpAny_call (codeAny_call_builtin PySem.F.cmp_object.ne.plain PySem.F.cmpEntry_ne (PySem.W.check_slot PySem.F.cmpKind_ne PySem.F.cmpSplit_ne (J.type.andThen (PySem.W.looks_mroIn inK hm)) (PySem.F.cmpArgs_ne _ _) (ne_entry inK J M hu1 ?_)))
    refine wpAny_mono (run_at (A' := X.A.in1) rfl F room.in1 bd I (vs := [.ref a, .ref b]) (us := [.ref a, .ref b]) (.cons rfl (.cons rfl .nil)) want) ?_ fun _ _ z => z
    rintro r s2 ⟨w, H2, J2, rel, t, rfl, q⟩
    obtain rfl : r = .bool t := rel
    exact ⟨t, rfl, (⟨.bl (!t), H2, J2, rfl, q⟩ : EP X pins σ Q _ s2), by simp⟩
  have one : wpAny (model X.prog X.w) X.A (tryCompare (.ref a) "__ne__" (.ref b)) (fun r s' => ∃ v, r = some v ∧ EP X pins σ Q v s') X.xe s := by
    unfold tryCompare
    have fin : wpAny (model X.prog X.w) X.A (callSpecialIfBound? (.ref a) "__ne__" [.ref b]) (fun r s' => ∃ v, r = some v ∧ EP X pins σ Q v s' ∧ v ≠ .notImplemented) X.xe s := by
      simp only [callSpecialIfBound?, bindSpecialIfBound?]
      refine wpAny_holding (wpAny_bind (wpAny_bind (wpAny_bind (J.type.here ((PySem.W.looks_findIn inK hne).here ?_)))))
      refine wpAny_bind (wpAny_askSetting (wpAny_ite ?_))
      have last : wpAny (model X.prog X.w) X.A (call (.builtin "object.__ne__") ([.ref a] ++ [.ref b]) >>= fun v => pure (some v)) (fun r s' => ∃ v, r = some v ∧ EP X pins σ Q v s' ∧ v ≠ .notImplemented) X.xe s :=
        wpAny_bind (wpAny_mono core (fun v s' z => wpAny_pure ⟨v, rfl, z⟩) fun _ _ z => z)
      split
      · exact wpAny_bind (wpAny_of_eq (PySem.F.cmp_object.ne.bind _) (wpAny_pure (by exact last)))
      · exact wpAny_tryCatch (wpAny_bind (wpAny_of_eq (PySem.F.cmp_object.ne.bind _) (wpAny_pure (by exact last))))
    refine wpAny_bind (wpAny_mono fin ?_ fun _ _ z => z)
    rintro r s2 ⟨v, rfl, z, nn⟩
    cases v <;> first | exact absurd rfl nn | exact wpAny_pure ⟨_, rfl, z⟩
  show wpAny (model X.prog X.w) X.A (richCompare .NotEq (.ref a) (.ref b)) _ _ _
  unfold richCompare
  simp only [oneThing_ref]
  refine wpAny_holding (wpAny_bind (wpAny_cRoomFor room.units0 ?_))
  rw [cmpInfo_NotEq]
  dsimp only
  refine wpAny_bind (J.type.here (wpAny_bind (J'.type.here ?_)))
  rw [show (Value.ref C != Value.ref C) = false by simp]
  simp only [Bool.false_eq_true, if_false]
  refine wpAny_bind (wpAny_pure ?_)
  simp only [Bool.false_eq_true, if_false]
  refine wpAny_bind (wpAny_mono one ?_ fun _ _ z => z)
  rintro r s2 ⟨v, rfl, z⟩
  exact wpAny_pure z
end
end DL

namespace DL
open PySem L2 PySem.Spec PyProof.Rows

/-! ### own operators, over data -/
section
variable {c : Cn} {F : Hp} {g : Addr → Option Loc} {σ : L2.St} {H : Hp} {δ : List SV} {ρ : List (V × SV)} {Post : List SV → SV → Prop} {S : List T → (RT → Prop) → Prop} {C : Addr}
/-- a promise of data is asked at a state -/
theorem spP_go {vs : List V} {ts : List T} {P : RT → Prop} {Q : VK} {E : XK} (S1 : StF c F g σ H δ ρ) (hd : DVs c.B F vs ts) (hS : S ts P) (k : ∀ r, P r → RTp Post δ r) (q : ∀ v H' δ' r, Post δ' r → St1 c σ H' δ' ρ v r → Q v H') : spP c.B S vs H Q E :=
  ⟨F, ts, S1.fh, hd, P, hS, fun r v H' F' hp A => by
    obtain ⟨s, k2, S3⟩ := (S1.grow A.eh A.ef A.fh A.fn).res S1.gnone S1.h0n A.res (k r hp)
    exact q v H' δ s k2 S3⟩
/-- an instance that is data -/
theorem DV.ins {B : Bs} {v : V} {ns : List Str} {us : List T} (h : DV B F v (.obj C ns us)) : ∃ a dx fs, v = .ref a ∧ F a = some (.ins C dx fs) := by
  simp only [DV] at h
  obtain ⟨a, dx, fs, e, h1, _⟩ := h
  exact ⟨a, dx, fs, e, h1⟩
theorem o2_bin {ns ns' : List Str} {us us' : List T} (h : ∃ P, S [.obj C ns us, .obj C ns' us'] P ∧ ∀ r, P r → RTp Post δ r) : OP2 c (rBin C (spP c.B S)) δ (.d (.obj C ns us)) (.d (.obj C ns' us')) Post := fun σ H ρ x y Q S1 q => by
  obtain ⟨F, g, S2, hx, hy⟩ := S1.top2
  have hx : DV c.B F x (.obj C ns us) := hx
  have hy : DV c.B F y (.obj C ns' us') := hy
  obtain ⟨P, hS, k⟩ := h
  obtain ⟨a, dx, fs, rfl, ha⟩ := hx.ins
  obtain ⟨b, dy, gs, rfl, hb⟩ := hy.ins
  exact ⟨a, dx, fs, b, dy, gs, rfl, rfl, S2.fh _ _ ha, S2.fh _ _ hb, spP_go S2 (.cons hx (.cons hy .nil)) hS k q⟩
/-- == and != -/
theorem o2_cmp {neg : Bool} {ns ns' : List Str} {us us' : List T} (h : ∃ P, S [.obj C ns us, .obj C ns' us'] P ∧ ∀ r, P r → ∃ t : Bool, r = .d (.bl t) ∧ Post δ (.d (.bl (if neg then !t else t)))) : OP2 c (rCmp C (spP c.B S) neg) δ (.d (.obj C ns us)) (.d (.obj C ns' us')) Post := fun σ H ρ x y Q S1 q => by
  obtain ⟨F, g, S2, hx, hy⟩ := S1.top2
  have hx : DV c.B F x (.obj C ns us) := hx
  have hy : DV c.B F y (.obj C ns' us') := hy
  obtain ⟨P, hS, k⟩ := h
  obtain ⟨a, dx, fs, rfl, ha⟩ := hx.ins
  obtain ⟨b, dy, gs, rfl, hb⟩ := hy.ins
  refine ⟨a, dx, fs, b, dy, gs, rfl, rfl, S2.fh _ _ ha, S2.fh _ _ hb, spP_go (Post := fun δ' r => ∃ t : Bool, δ' = δ ∧ r = .d (.bl t) ∧ Post δ (.d (.bl (if neg then !t else t)))) S2 (.cons hx (.cons hy .nil)) hS (fun r hp => ?_) fun v H' δ' r ⟨t, e1, e2, kk⟩ S3 => ?_⟩
  · obtain ⟨t, e, kk⟩ := k r hp
    subst e
    exact ⟨t, rfl, rfl, kk⟩
  · subst e1; subst e2
    obtain ⟨F3, g3, S4, hv⟩ := S3
    have hv : DV c.B F3 v (.bl t) := hv
    simp only [DV] at hv
    exact ⟨t, hv, q _ H' _ _ kk ⟨F3, g3, S4, by simp only [TopOk, DV]⟩⟩
theorem o1_uno {ns : List Str} {us : List T} (h : ∃ P, S [.obj C ns us] P ∧ ∀ r, P r → RTp Post δ r) : OP1 c (rUno C (spP c.B S)) δ (.d (.obj C ns us)) Post := fun σ H ρ x Q S1 q => by
  obtain ⟨F, g, S2, hx⟩ := S1.top1
  have hx : DV c.B F x (.obj C ns us) := hx
  obtain ⟨P, hS, k⟩ := h
  obtain ⟨a, dx, fs, rfl, ha⟩ := hx.ins
  exact ⟨a, dx, fs, rfl, S2.fh _ _ ha, spP_go S2 (.cons hx .nil) hS k q⟩
theorem oa_lenO {ns : List Str} {us : List T} (h : ∃ P, S [.obj C ns us] P ∧ ∀ r, P r → ∃ n : Nat, r = .d (.int n) ∧ n < 2 ^ 63 ∧ Post δ (.d (.int n))) : OPA c (rLenO C (spP c.B S)) δ [.d (.obj C ns us)] Post := fun σ H ρ vs Q hl S1 q => by
  obtain ⟨v, rfl, S1⟩ := S1.arg1 hl
  obtain ⟨F, g, S2, hx⟩ := S1.top1
  have hx : DV c.B F v (.obj C ns us) := hx
  obtain ⟨P, hS, k⟩ := h
  obtain ⟨a, dx, fs, rfl, ha⟩ := hx.ins
  refine ⟨a, dx, fs, rfl, S2.fh _ _ ha, spP_go (Post := fun δ' r => ∃ n : Nat, δ' = δ ∧ r = .d (.int n) ∧ n < 2 ^ 63 ∧ Post δ (.d (.int n))) S2 (.cons hx .nil) hS (fun r hp => ?_) fun v H' δ' r ⟨n, e1, e2, hn, kk⟩ S3 => ?_⟩
  · obtain ⟨n, e, hn, kk⟩ := k r hp
    subst e
    exact ⟨n, rfl, rfl, hn, kk⟩
  · subst e1; subst e2
    obtain ⟨F3, g3, S4, hv⟩ := S3
    have hv : DV c.B F3 v (.int n) := hv
    simp only [DV] at hv
    exact ⟨n, hv, by omega, by omega, q _ H' _ _ kk ⟨F3, g3, S4, by simp only [TopOk, DV]⟩⟩
/-- o.f, a property -/
theorem ev_prop {ta : TE} {E : XK} (h : EV c ta δ fun δ1 r => ∃ ns us, r = .d (.obj C ns us) ∧ ∃ P, S [.obj C ns us] P ∧ ∀ r, P r → RTp Post δ1 r) : EV c (tProp C (spP c.B S) [] E ta) δ Post := fun σ H ρ Q S1 q =>
  h σ H ρ _ S1 fun x H1 δ1 r ⟨ns, us, e, P, hS, k⟩ ⟨F, g, S2, hx⟩ => by
    subst e
    have hx : DV c.B F x (.obj C ns us) := hx
    obtain ⟨a, dx, fs, rfl, ha⟩ := hx.ins
    exact ⟨a, dx, fs, rfl, S2.fh _ _ ha, spP_go S2 (.cons hx .nil) hS k q⟩
/-! ### x op= y, where the class has no own in-place name -/
theorem es_augO {i : Nat} {te : TE} {R : DEnds} {ns : List Str} {us : List T} (hi : δ[i]? = some (.d (.obj C ns us)))
    (h : EV c te δ fun δ1 r => ∃ ns' us', r = .d (.obj C ns' us') ∧ δ1[i]? = some (.d (.obj C ns us)) ∧ ∃ P, S [.obj C ns us, .obj C ns' us'] P ∧ ∀ r, P r → RTp (fun δ2 r2 => R.nx (δ2.set i r2)) δ1 r) : ES c (tAug i te (rBin C (spP c.B S))) δ R := fun σ H ρ D S1 M => by
  obtain ⟨F, g, S2⟩ := S1
  obtain ⟨v, e, hv⟩ := S2.data hi
  refine ⟨v, e, ?_⟩
  refine h σ H ρ _ ⟨F, g, S2⟩ fun y H1 δ1 r ⟨ns', us', er, hi', P, hS, k⟩ S3 => ?_
  subst er
  obtain ⟨F3, g3, S4, hy⟩ := S3
  have hy : DV c.B F3 y (.obj C ns' us') := hy
  obtain ⟨v', e', hv'⟩ := S4.data hi'
  rw [e] at e'
  cases e'
  obtain ⟨a, dx, fs, rfl, ha⟩ := hv'.ins
  obtain ⟨b, dy, gs, rfl, hb⟩ := hy.ins
  exact ⟨a, dx, fs, b, dy, gs, rfl, rfl, S4.fh _ _ ha, S4.fh _ _ hb, spP_go S4 (.cons hv' (.cons hy .nil)) hS k fun z H2 δ2 r2 k2 S5 => M.nx _ _ _ k2 S5.store⟩
end
section
variable {X : Cx} {k : Nat} {f C : Addr} {fd : FuncData} {ps : List Str} {sp : Sp}
theorem bin1_K {prog : Program} {w : World} {A : Around} {E : Value → Shared → Prop} {s : Shared} {K : PySem.W.Frag} {x L f : Addr} {h₀ : Heap} {m : Str → Option Value} {ox : Obj} {od : Option Obj} {nm : String} {b : Value} {Q : Value → Shared → Prop} (inK : K.In s.heap) (J : PySem.W.InstAt s.heap x ox C od) (hb : PySem.W.Looks (model prog w) s.heap (typeOf b) (.ref C)) (hc : PySem.W.selfFirst K C = true)
    (hs : PySem.W.findIn K (.ref C) (PySem.dunder nm) = some (some (.ref f))) (hf : PySem.W.isFn K (.ref f) = true) (h : wpAny (model prog w) A (call (.ref f) [.ref x, b]) (PySem.W.CmpBack Q) E s) : wpAny (model prog w) A (binaryOp1 nm (.ref x) b) (fun r s' => ∃ v, r = some v ∧ Q v s') E s := by
  obtain ⟨cd, rest, hcd, hm⟩ := PySem.W.ksp_first hc
  have one := PySem.W.ksp_try inK J hs hf h
  unfold binaryOp1
  refine wpAny_bind (J.type.here (wpAny_bind (hb.here (wpAny_bind ((PySem.W.fills_K inK hcd hm hs).here ?_)))))
  rw [show (Value.ref C == Value.ref C) = true by simp]
  simp only [if_true]
  refine wpAny_bind (wpAny_pure ?_)
  simp only [Bool.and_false, Bool.false_eq_true, if_false, Bool.false_and]
  refine wpAny_bind (wpAny_pure ?_)
  simp only [Bool.false_eq_true, if_false]
  refine wpAny_bind (wpAny_mono one (fun r s' ⟨v, e, hq⟩ => ?_) fun _ _ z => z)
  subst e
  exact wpAny_pure ⟨v, rfl, hq⟩
theorem fillsI_none {K : PySem.W.Frag} {M : Model} {h : Heap} {nm : String} {cd : ClassData} (inK : K.In h) (hc : PySem.W.clsIn K C = some cd) (hm : cd.mro = [.ref C, .type "object"]) (h1 : PySem.W.findIn K (.ref C) (dunderI nm) = some none) (h2 : PySem.W.findIn K (.type "object") (dunderI nm) = some none) : PySem.W.Looks M h (fillsInplaceSlot (.ref C) nm false) false := by
  intro A Q E s kp q
  have Lm : PySem.W.Looks M h (mroOf (.ref C)) cd.mro := (PySem.W.looks_clsIn inK hc).andThen (f := fun cd => pure cd.mro) .now
  unfold fillsInplaceSlot
  refine wpAny_bind (Lm A _ E s kp ?_)
  rw [hm, List.anyM_cons]
  refine wpAny_bind (wpAny_bind (PySem.W.looks_findIn inK h1 A _ E s kp ?_))
  refine wpAny_pure ?_
  rw [if_neg (by simp), List.anyM_cons]
  refine wpAny_bind (wpAny_bind (PySem.W.looks_findIn inK h2 A _ E s kp ?_))
  refine wpAny_pure ?_
  rw [if_neg (by simp)]
  exact wpAny_pure q
/-- an own class without in-place names: x op= y is x = x op y -/
theorem ip_own {op : Operator} {cd : ClassData} (F : FnOk X.prog X.w X.K X.mg X.base CX0 k f fd ps sp) (room : L2.Room k X.A) (bd : Binds X.K fd ps []) (hc : PySem.W.selfFirst X.K C = true) (M : OwnM X.K C (PySem.dunder op.info.2) f) (ho : (op == .Add) = false) (hcd : PySem.W.clsIn X.K C = some cd) (hm : cd.mro = [.ref C, .type "object"]) (h1 : PySem.W.findIn X.K (.ref C) (dunderI op.info.2) = some none) (h2 : PySem.W.findIn X.K (.type "object") (dunderI op.info.2) = some none) : PIp X op (rBin C sp) := by
  intro pins s σ H x y u v Q I rx ry h
  obtain ⟨a, dx, fs, b, dy, gs, rfl, rfl, ha, hb, want⟩ := h
  cases rx
  cases ry
  obtain ⟨_, J, _⟩ := ins_get I.hok ha
  obtain ⟨_, J', _⟩ := ins_get I.hok hb
  obtain ⟨_, J, _⟩ := J.look
  obtain ⟨_, J', _⟩ := J'.look
  have inK := I.kIn
  have one : wpAny (model X.prog X.w) X.A (binaryOp1 op.info.2 (.ref a) (.ref b)) (fun r s' => ∃ v, r = some v ∧ EP X pins σ Q v s') X.xe s := by
    refine bin1_K (L := a) (h₀ := s.heap) (m := fun _ => none) inK J J'.type hc M.at_ M.fn ?_
    refine wpAny_mono (run_at rfl F room bd I (vs := [.ref a, .ref b]) (us := [.ref a, .ref b]) (.cons rfl (.cons rfl .nil)) want) ?_ fun _ _ z => z
    rintro r s2 ⟨w, H2, J2, rel, q⟩
    exact cmpBack_of rel (⟨w, H2, J2, rel, q⟩ : EP X pins σ Q r s2)
  unfold inplaceOp
  refine wpAny_holding (wpAny_bind (J.type.here (wpAny_bind ?_)))
  rw [ho]
  refine (fillsI_none inK hcd hm h1 h2).here ?_
  simp only [Bool.false_eq_true, if_false]
  refine wpAny_bind (wpAny_mono one (fun r s' ⟨v, e, hq⟩ => ?_) fun _ _ z => z)
  subst e
  exact wpAny_pure hq
end
end DL

namespace DL
open PySem L2 PySem.Spec PyProof.Rows
section
variable {X : Cx} {pos : Pos}
theorem pg_lstB {es : List Expr} {k : Nat} {t : TGs} (B : Bs) (h : Bx X = B) (n : Nat) (hc : X.calm = true) (hp : PGs X es t) (hn : (assignEach es X.env).length = n := by rfl) (hst : (assignEach es X.env).findIdx? (·.1) = none := by rfl) : PG X (.Tuple es k pos) (gLst B.K n t) := by subst h; exact pg_lst hc hp hn hst
theorem pe_orTB {a b : Expr} {rest : List Expr} {ta tb : TE} (B : Bs) (h : Bx X = B) (ha : PE X a ta) (hb : PE X (.BoolOp .Or (b :: rest) pos) tb) : PE X (.BoolOp .Or (a :: b :: rest) pos) (tOrT B.K ta tb) := by subst h; exact pe_orT ha hb
end
section
variable {c : Cn} {δ : List SV} {Post : List SV → SV → Prop} {ta tb : TE}
/-- (a, b, ..) = a new list -/
theorem gt_lst {gs : TGs} {ws : Nat → Prop} {ts : List T} {n : Nat} {P : List SV → Prop} {a : Addr} (hn : ts.length = n) (h : GTs c gs ws ts δ P) : GT c (gLst c.B.K n gs) ws (.own a (.lst ts)) δ P := fun v σ H ρ Q S q => by
  obtain ⟨F, g, S1, hd⟩ := S.freeze
  have hd : DV c.B F v (.lst ts) := hd
  simp only [DV] at hd
  obtain ⟨a, xs, rfl, h1, h2⟩ := hd
  exact ⟨a, xs, rfl, SqL.of (S1.fh _ _ h1), by rw [h2.length, hn], h xs σ H ρ Q ⟨F, g, S1, h2⟩ q⟩
/-- a or b, of data -/
theorem ev_orT (h : EV c ta δ fun δ1 r => ∃ t, Pu r (.d t) ∧ ∃ b, TruT δ1 (.d t) b ∧ if b = true then Post δ1 (.d t) else EV c tb δ1 Post) : EV c (tOrT c.B.K ta tb) δ Post := fun σ H ρ Q S q => h σ H ρ _ S fun v H1 δ1 r ⟨t, p, b, tr, k⟩ S1 => by
  obtain ⟨F, g, S2, hv0⟩ := (S1.put p).top1
  have hv : DV c.B F v t := hv0
  have tv : TruV c.B.K v H1 b := by
    cases tr with
    | non => rw [show v = .non from DV.non_ (B := c.B) (F := F) hv]; rfl
    | bl b => rw [show v = .bl b from DV.bl_ (B := c.B) (F := F) hv]; rfl
    | int i => rw [show v = .int i from DV.int_ (B := c.B) (F := F) hv]; rfl
    | @lst _ ts l =>
      obtain ⟨a, xs, rfl, ha, dv⟩ := l.at S2 hv0
      refine .inl ⟨xs, SqL.of ha, ?_⟩
      have := dv.length
      cases xs <;> cases ts <;> simp_all
  refine ⟨b, tv, ?_⟩
  cases b with
  | true => exact q v H1 δ1 _ k ⟨F, g, S2, hv⟩
  | false => exact (show EV c tb δ1 Post from k) σ H1 ρ Q ⟨F, g, S2⟩ q
/-- (a, b) = (x, y), where the tuple is made: what is new stays owned -/
theorem es_tupG {i j : Nat} {tx : TA} {R : DEnds} (hij : i ≠ j) (h : EVA c tx δ fun δ1 rs => ∃ s1 s2, rs = [s1, s2] ∧ Pop s1 ∧ Pop s2 ∧ R.nx ((δ1.set i s1).set j s2)) : ES c (tAsg (tTup tx) (gTup c.B.K 2 (gCons (gName i) (gCons (gName j) gNil)))) δ R := fun σ H ρ D S M =>
  h σ H ρ _ S fun vs H1 δ1 rs ⟨s1, s2, e, p1, p2, k⟩ hl S1 => by
    subst e
    match vs, hl, S1 with
    | [v, w], hl, S1 =>
      have S1 : St c σ H1 δ1 ((ρ ++ [(v, s1)]) ++ [(w, s2)]) := by rw [List.append_assoc]; exact S1
      refine ⟨show 2 ≤ sizeLine by decide, fun p hp => ⟨p, [v, w], rfl, SqT.of upd_same, rfl, v, [w], rfl, w, [], rfl, rfl, M.nx _ _ _ k ?_⟩⟩
      have S2 : St c (σ.set j (some w)) H1 (δ1.set j s2) (ρ ++ [(v, s1)]) := (S1.pop p2).store
      have S3 : St c ((σ.set j (some w)).set i (some v)) H1 ((δ1.set j s2).set i s1) ρ := (S2.pop p1).store
      rw [List.set_comm _ _ (Ne.symm hij), List.set_comm _ _ (Ne.symm hij)] at S3
      obtain ⟨F, g, S4⟩ := S3
      exact ⟨F, g, S4.grow (Ex.new hp) (Ex.refl F) (S4.fh.trans (Ex.new hp)) (fun _ _ _ => rfl)⟩
/-! names of own operators -/
theorem nm_rshift : (PySem.dunder Operator.RShift.info.2 : Str) = "__rshift__" := by decide +kernel
theorem nm_or : (PySem.dunder Operator.BitOr.info.2 : Str) = "__or__" := by decide +kernel
end
end DL

namespace DL
open PySem L2 PySem.Spec PyProof.Rows
section
variable {c : Cn} {δ : List SV} {Post : List SV → SV → Prop} {S : List T → (RT → Prop) → Prop} {C : Addr}
/-! the same, where the promise is asked for what is wanted -/
theorem o2_binR {ns ns' : List Str} {us us' : List T} (h : S [.obj C ns us, .obj C ns' us'] (RTp Post δ)) : OP2 c (rBin C (spP c.B S)) δ (.d (.obj C ns us)) (.d (.obj C ns' us')) Post := o2_bin ⟨_, h, fun _ h => h⟩
theorem o2_cmpR {neg : Bool} {ns ns' : List Str} {us us' : List T} (h : S [.obj C ns us, .obj C ns' us'] fun r => ∃ t : Bool, r = .d (.bl t) ∧ Post δ (.d (.bl (if neg then !t else t)))) : OP2 c (rCmp C (spP c.B S) neg) δ (.d (.obj C ns us)) (.d (.obj C ns' us')) Post := o2_cmp ⟨_, h, fun _ h => h⟩
theorem o1_unoR {ns : List Str} {us : List T} (h : S [.obj C ns us] (RTp Post δ)) : OP1 c (rUno C (spP c.B S)) δ (.d (.obj C ns us)) Post := o1_uno ⟨_, h, fun _ h => h⟩
theorem oa_lenW {ns : List Str} {us : List T} (h : S [.obj C ns us] fun r => ∃ n : Nat, r = .d (.int n) ∧ n < 2 ^ 63 ∧ Post δ (.d (.int n))) : OPA c (rLenO C (spP c.B S)) δ [.d (.obj C ns us)] Post := oa_lenO ⟨_, h, fun _ h => h⟩
theorem ev_propR {ta : TE} {E : XK} (h : EV c ta δ fun δ1 r => ∃ ns us, r = .d (.obj C ns us) ∧ S [.obj C ns us] (RTp Post δ1)) : EV c (tProp C (spP c.B S) [] E ta) δ Post := ev_prop (h.imp fun δ1 r ⟨ns, us, e, h⟩ => ⟨ns, us, e, _, h, fun _ h => h⟩)
theorem es_augR {i : Nat} {te : TE} {R : DEnds} {ns : List Str} {us : List T} (hi : δ[i]? = some (.d (.obj C ns us)))
    (h : EV c te δ fun δ1 r => ∃ ns' us', r = .d (.obj C ns' us') ∧ δ1[i]? = some (.d (.obj C ns us)) ∧ S [.obj C ns us, .obj C ns' us'] (RTp (fun δ2 r2 => R.nx (δ2.set i r2)) δ1)) : ES c (tAug i te (rBin C (spP c.B S))) δ R := es_augO hi (h.imp fun δ1 r ⟨ns, us, e, e2, h⟩ => ⟨ns, us, e, e2, _, h, fun _ h => h⟩)
end
end DL

namespace DL
open PySem L2 PySem.Spec PyProof.Rows
/-! ### d[text] of a dict that the top has written -/
theorem ix_kdB {X : Cx} (B : Bs) (h : Bx X = B) : IxR X (rIxD B.K B.w) := by subst h; exact ix_kdict
theorem pt_truthB {X : Cx} {a : Expr} {ta : TE} (B : Bs) (h : Bx X = B) (ha : PE X a ta) (he : ∀ whole, isTrue a X.env whole = (do let v ← whole; standAt a.pos; holding [v] (truthy v))) : PT X a (fun σ H Q => ta σ H fun x H' => ∃ k, TruV B.K x H' k ∧ Q k H') := by subst h; exact pt_truth ha he
section
variable {c : Cn} {δ : List SV} {Post : List SV → SV → Prop}
theorem o2_kd {p : Addr} {z : Str} {v : V} {t : T} (h : KDct c.B.K c.B.w p z v) (hf : flat v t) (k : Post δ (.d t)) : OP2 c (rIxD c.B.K c.B.w) δ (.d (.raw (.ref p))) (.d (.str z)) Post := fun σ H ρ x y Q S q => by
  obtain ⟨F, g, S2, hx, hy⟩ := S.top2
  have hx : DV c.B F x (.raw (.ref p)) := hx
  have hy : DV c.B F y (.str z) := hy
  simp only [DV] at hx hy
  exact ⟨p, z, v, hx, hy, h, q _ H δ _ k (St.flat ⟨F, g, S2⟩ hf)⟩
end
end DL

namespace DL
open PySem L2 PySem.Spec PyProof.Rows

section
variable {P : Program} {w : World} {A : Around} {E : Value → Shared → Prop} {s : Shared} {a : Addr} {ks : List Str}
theorem TxtSet.keep {h h' : Heap} (R : TxtSet w h a ks) (k : ∀ o, h.get? a = some o → h'.get? a = some o) : TxtSet w h' a ks := by
  obtain ⟨o, es, ep, t, ho, r⟩ := R.ex
  exact ⟨o, es, ep, t, k o ho, r⟩
theorem TxtE.is {e : Int × Value} (g : TxtE w e) (k : Str) : (strKind P w).is k e.2 = true ↔ txtOf e = k := by
  obtain ⟨k0, t, rfl⟩ := g
  show Value.isStrOf k (.str k0 t) = true ↔ k0 = k
  simp [Value.isStrOf]
theorem txt_elems {l : List (Int × Value)} (g : ∀ e ∈ l, TxtE w e) : ElemsOf (strKind P w) l := fun e he => by
  obtain ⟨k, t, e1⟩ := g e he
  rw [e1]
  exact ⟨⟨k, by show Value.isStrOf k (.str k t) = true; simp [Value.isStrOf], rfl⟩, rfl⟩
/-- the new table is stored, and laid anew if it is too full -/
theorem txt_store {gw : Bool → Sem Unit} (hgw : ∀ (b : Bool) (s₁ : Shared) (Q' : Unit → Shared → Prop), Q' () s₁ → wpAny (model P w) A (gw b) Q' E s₁) {o : Obj} {es es1 : Array (Int × Value)} {ep : Nat} {t t2 : SetTable} (ho : s.heap.get? a = some o) (hex : o.ExactSet) (hd : o.data = .set es ep t)
    (g1 : ∀ e ∈ es1.toList, TxtE w e) (nd : (es1.toList.map txtOf).Nodup) (hb : es1.size < scanBound) (hf : t2.fits es1.size = true) (hr : Ris t2.place.toList) (hl : w.params.followText "set-order" = true ∨ t2.led = true) {dm : Bool} {R : Option Bool → Shared → Prop}
    (hR : ∀ h' ks', Heap.SameBut a s.heap h' → ks'.Perm (es1.toList.map txtOf) → TxtSet w h' a ks' → R (some true) { s with heap := h' }) :
    wpAny (model P w) A (do
        storeSet a es1 t2
        if (!dm && t2.tooFull) = true then do
            gw (relayAll t2 es1 (SetTable.grown es1.size)).2.2
            storeSet a (relayAll t2 es1 (SetTable.grown es1.size)).1 (relayAll t2 es1 (SetTable.grown es1.size)).2.1
            pure (some true)
          else pure (some true)) R E s := by
  have sb := Heap.SameBut.update s.heap a (Obj.putSet es1 t2)
  have o1 := L2.store_at (es' := es1) (t' := t2) ho hd
  refine wpAny_bind (wpAny_storeSet_of ho hd (hz := fits_of_scanBound hb) ?_)
  by_cases hc : (!dm && t2.tooFull) = true
  · rw [if_pos hc]
    have q1 := relayAll_perm t2 es1 (SetTable.grown es1.size)
    have q2 := relayAll_fits t2 es1 (SetTable.grown es1.size)
    have q3 := L2.relayAll_ris t2 es1 (SetTable.grown es1.size)
    have q4 := L2.relayAll_led t2 es1 (SetTable.grown es1.size)
    revert q1 q2 q3 q4
    generalize relayAll t2 es1 (SetTable.grown es1.size) = Z
    obtain ⟨es3, t3, gv⟩ := Z
    dsimp only
    intro q1 q2 q3 q4
    have z3 : es3.size < scanBound := by
      have : es3.size = es1.size := by rw [← Array.length_toList, q1.length_eq, Array.length_toList]
      omega
    refine wpAny_bind (hgw _ _ _ (wpAny_bind (wpAny_storeSet_of o1 rfl (hz := fits_of_scanBound z3) ?_)))
    have o3 := L2.store_at (es' := es3) (t' := t3) o1 rfl
    refine wpAny_pure (hR _ (es3.toList.map txtOf) (sb.trans (Heap.SameBut.update _ a _)) (q1.map txtOf) ⟨_, es3, _, t3, o3, hex, rfl, fun e he => g1 e (q1.mem_iff.mp he), rfl, (q1.map txtOf).nodup_iff.mpr nd, z3, q2, q3, ?_⟩)
    rw [q4]; exact hl
  · rw [if_neg hc]
    exact wpAny_pure (hR _ _ sb (List.Perm.refl _) ⟨_, es1, _, t2, o1, hex, rfl, g1, rfl, nd, hb, hf, hr, hl⟩)
/-- one more text -/
theorem txt_add_hashed {k : Str} {tk : Tok} {Q : Bool → Shared → Prop} (R : TxtSet w s.heap a ks) (room : ks.length + 1 < scanBound)
    (hQ : ∀ (b : Bool) h' ks', Heap.SameBut a s.heap h' → (if k ∈ ks then ks'.Perm ks else ks'.Perm (k :: ks)) → TxtSet w h' a ks' → Q b { s with heap := h' }) :
    wpAny (model P w) A (setAddHashed a (.str k tk) ((strKind P w).hash k)) Q E s := by
  obtain ⟨o, es, ep, t, ho, hex, hd, g, rfl, nd, hb, hf, hr, hl⟩ := R.ex
  have isk : (strKind P w).is k (.str k tk) = true := by show Value.isStrOf k (.str k tk) = true; simp [Value.isStrOf]
  have sc : (Value.str k tk).scannable = true := rfl
  have els : ElemsOf (strKind P w) es.toList := txt_elems g
  unfold setAddHashed setAddHashedIn
  refine wpAny_holding (wpAny_bind (wpAny_setState_of ho hd hf (by
    dsimp only
    rw [byScan_of sc hb els, if_pos rfl]
    unfold setAddByScan
    refine wpAny_bind (wpAny_bind (wpAny_rule (wpAny_bind (wpAny_setScan_of isk ho hd hf els ?_))))
    cases hfi : List.findIdx? (fun e => (strKind P w).is k e.2) es.toList with
    | some j =>
      obtain ⟨hj, pj, _⟩ := List.findIdx?_eq_some_iff_getElem.mp hfi
      have hin : k ∈ es.toList.map txtOf := List.mem_map.mpr ⟨_, List.getElem_mem hj, ((g _ (List.getElem_mem hj)).is (P := P) k).mp pj⟩
      exact wpAny_pure (wpAny_pure (hQ _ s.heap _ (Heap.SameBut.refl a s.heap) (by rw [if_pos hin]) ⟨o, es, ep, t, ho, hex, hd, g, rfl, nd, hb, hf, hr, hl⟩))
    | none =>
      dsimp only
      have hin : k ∉ es.toList.map txtOf := fun z => by
        obtain ⟨e, he, q⟩ := List.mem_map.mp z
        have c := List.findIdx?_eq_none_iff.mp hfi e he
        rw [((g e he).is (P := P) k).mpr q] at c
        cases c
      have gwy : ∀ (b : Bool) {s₁ : Shared} {Q' : Unit → Shared → Prop}, Q' () s₁ → wpAny (model P w) A (match b with | true => rule "set.scan.the-table-gave-way" | false => pure ()) Q' E s₁ := fun b s₁ Q' q => by
        cases b
        · exact wpAny_pure q
        · exact wpAny_rule q
      have q1 := layNew_perm t es ((strKind P w).hash k) (.str k tk)
      have q2 := layNew_fits t es ((strKind P w).hash k) (.str k tk)
      have q3 := L2.layNew_ris t es ((strKind P w).hash k) (.str k tk) hr
      have q4 := L2.layNew_led t es ((strKind P w).hash k) (.str k tk)
      revert q1 q2 q3 q4
      generalize layNew t es ((strKind P w).hash k) (.str k tk) = Z
      obtain ⟨es1, t1, dm, gv⟩ := Z
      dsimp only
      intro q1 q2 q3 q4
      rw [Array.toList_push] at q1
      have p1 : es1.toList.Perm (((strKind P w).hash k, Value.str k tk) :: es.toList) := q1.trans (List.perm_append_singleton _ _)
      have p2 : (es1.toList.map txtOf).Perm (k :: es.toList.map txtOf) := p1.map txtOf
      have g1 : ∀ e ∈ es1.toList, TxtE w e := fun e he => by
        rcases List.mem_cons.mp (p1.mem_iff.mp he) with z | z
        · rw [z]; exact ⟨k, tk, rfl⟩
        · exact g e z
      have n1 : (es1.toList.map txtOf).Nodup := p2.nodup_iff.mpr (List.nodup_cons.mpr ⟨hin, nd⟩)
      have b1 : es1.size < scanBound := by
        rw [← Array.length_toList, p1.length_eq, List.length_cons]
        rwa [List.length_map] at room
      have l1 : w.params.followText "set-order" = true ∨ t1.led = true := by rw [q4]; exact hl
      have fin : ∀ h' ks', Heap.SameBut a s.heap h' → ks'.Perm (es1.toList.map txtOf) → TxtSet w h' a ks' → Q true { s with heap := h' } := fun h' ks' sb pm r => hQ _ h' ks' sb (by rw [if_neg hin]; exact pm.trans p2) r
      refine wpAny_bind (gwy _ ?_)
      split
      · refine wpAny_bind (by
          rw [hashByValue_scannable 8 sc]
          refine wpAny_pure (txt_store (fun b s₁ Q' q => ?_) ho hex hd g1 n1 b1 ?_ ?_ ?_ fun h' ks' sb pm r => ?_)
          · cases b
            · exact wpAny_pure q
            · exact wpAny_rule q
          · first | exact q2 | (split <;> first | exact q2 | exact SetTable.fits_plain_off q2)
          · first | exact q3 | (split <;> exact q3)
          · first | exact l1 | (split <;> exact l1)
          · exact wpAny_pure (fin h' ks' sb pm r))
      · refine wpAny_bind (wpAny_pure ?_)
        rw [if_pos rfl]
        refine txt_store (fun b s₁ Q' q => ?_) ho hex hd g1 n1 b1 q2 q3 l1 fun h' ks' sb pm r => ?_
        · cases b
          · exact wpAny_pure q
          · exact wpAny_rule q
        · exact wpAny_pure (fin h' ks' sb pm r))))
end
end DL

namespace DL
open PySem L2 PySem.Spec PyProof.Rows

/-! ### sorted(a set of texts) -/
section
variable {P : Program} {w : World} {A : Around} {E : Value → Shared → Prop} {s : Shared} {a : Addr} {ks : List Str}
theorem txts_of {w : World} : ∀ (l : List (Int × Value)), (∀ e ∈ l, TxtE w e) → StrsAre (l.map (·.2)) (l.map txtOf)
  | [], _ => .nil
  | e :: l, h => by
    obtain ⟨k, t, rfl⟩ := h e List.mem_cons_self
    exact .cons k t (txts_of l fun u hu => h u (List.mem_cons_of_mem _ hu))
theorem strs_perm {us : List Value} {ks : List Str} (h : StrsAre us ks) : ∀ {vs : List Value}, vs.Perm us → ∃ js, StrsAre vs js ∧ js.Perm ks := by
  intro vs p
  induction p generalizing ks with
  | nil => cases h; exact ⟨[], .nil, List.Perm.refl _⟩
  | cons x p ih =>
    cases h with
    | cons k t h =>
      obtain ⟨js, h1, h2⟩ := ih h
      exact ⟨k :: js, .cons k t h1, h2.cons k⟩
  | swap x y l =>
    cases h with
    | cons k t h =>
      cases h with
      | cons k2 t2 h => exact ⟨k2 :: k :: _, .cons k2 t2 (.cons k t h), List.Perm.swap _ _ _⟩
  | trans p q ih1 ih2 =>
    obtain ⟨js, h1, h2⟩ := ih2 h
    obtain ⟨js2, h3, h4⟩ := ih1 h1
    exact ⟨js2, h3, h4.trans h2⟩
theorem txt_sorted {Q : Value → Shared → Prop} (R : TxtSet w s.heap a ks) (hh : A.handled = none) (h64 : ks.length < 64)
    (hQ : ∀ s' p (out : Array Value) (c : Nat) (ys : List Str), (∀ b o, s.heap.get? b = some o → s'.heap.get? b = some o) → s'.gens = s.gens → s'.os = s.os → s.heap.objs.size ≤ p → s'.heap.get? p = some (seqObj "list" out c) → StrsAre out.toList ys → ys.Perm ks → sortedS ys = true → Q (.ref p) s') :
    wpAny (model P w) A (call (.builtin "sorted") [.ref a]) Q E s := by
  obtain ⟨o, es, ep, t, ho, hex, hd, g, rfl, nd, hb, hf, hr, hl⟩ := R.ex
  rw [List.length_map, Array.length_toList] at h64
  refine Calls.call_function_entry kind_sorted plain_sorted entry_sorted (args_sorted1 _) ?_
  unfold Builtin.«sorted»
  refine wpAny_bind (m := checkCount "sorted" 1 1 _) (wpAny_pure (wpAny_bind (L2.collect_set (A := A.in1) hh ⟨o, ho, hex.1, hd⟩ hf hb hr hl fun s1 vs k1 hz g1 o1 pm => ?_)))
  obtain ⟨js, hjs, pj⟩ := strs_perm (txts_of es.toList g) pm
  have lv : vs.length < 64 := by rw [pm.length_eq, List.length_map, Array.length_toList]; exact h64
  refine wpAny_bind (wpAny_newList ?_ (by rw [sizeLine_eq]; omega))
  have nl : (s1.heap.push (seqObj "list" vs.toArray 0)).get? s1.heap.objs.size = some (seqObj "list" vs.toArray 0) := Heap.get?_push_size _ rfl
  refine wpAny_bind (wpAny_holding (wpAny_call_entry slot_list_sort ⟨_, nl, rfl⟩ entry_list_sort
    (list_sort_treeK strKind_oneLt nl hjs.keysOf (fun v₁ v₂ rest e => keyKind_strs (by rw [← e]; exact hjs)) lv fun st' hp hs => ?_) (args_list_sort _)))
  obtain ⟨ys, y1, y2, y3⟩ := sorted_out_str hjs hp hs
  obtain ⟨c, hc⟩ := sortedHeap_at (vs := vs) (out := (arrOf st').map (·.2)) nl
  refine ⟨_, rfl, wpAny_pure ⟨_, rfl, hQ _ s1.heap.objs.size _ c ys (fun b u e => ?_) g1 o1 hz hc y1 (y2.trans pj) y3⟩⟩
  have q := k1 b u e
  have hlt := Heap.lt_size q
  show (sortedHeap (s1.heap.push (seqObj "list" vs.toArray 0)) s1.heap.objs.size vs _).get? b = some u
  rw [sortedHeap_old (Nat.ne_of_lt hlt) (by rw [size_push']; exact Nat.lt_succ_of_lt hlt)]
  exact Heap.get?_push_of_some _ q
end
end DL

namespace DL
open PySem PySem.Spec PyProof.Rows L2

/-! ### sets of texts as tracked things -/
abbrev emptySet (w : World) : Obj := { cls := .type "set", dict := none, data := .set #[] 0 (.fresh 0 0 (!w.params.followText "set-order")) }
theorem txt_empty {w : World} {h : Heap} {a : Addr} (g : h.get? a = some (emptySet w)) : TxtSet w h a [] := by
  refine ⟨_, #[], 0, _, g, ⟨rfl, rfl, rfl⟩, rfl, fun e he => by simp at he, by simp, by simp, by decide, by rfl, List.Pairwise.nil, ?_⟩
  show _ ∨ (!w.params.followText "set-order") = true
  cases w.params.followText "set-order" <;> simp
theorem txt_obj {w : World} {P : Program} {H : Hp} {h : Heap} {a : Addr} {ks : List Str} (R : TxtSet w h a ks) : ObjOk P w H h a (TxtO w a ks) := by
  obtain ⟨o, _, _, _, ho, _⟩ := id R.ex
  exact ⟨R, ⟨o, ho⟩, fun h1 h2 p k => TxtSet.keep p k⟩
theorem TxtSet.type {w : World} {s : Shared} {a : Addr} {ks : List Str} (R : TxtSet w s.heap a ks) : s.TypeIs (.ref a) "set" := by
  obtain ⟨o, _, _, _, ho, hx, _⟩ := R.ex
  exact ⟨o, ho, hx.1⟩
section
variable {P : Program} {w : World} {A : Around} {E : Value → Shared → Prop} {s : Shared} {a : Addr} {ks : List Str}
theorem isStr_self (k : Str) (tk : Tok) : (strKind P w).is k (.str k tk) = true := by show Value.isStrOf k (.str k tk) = true; simp [Value.isStrOf]
/-- s.add(text) -/
theorem txt_add {k : Str} {tk : Tok} {Q : Value → Shared → Prop} (R : TxtSet w s.heap a ks) (room : ks.length + 1 < scanBound)
    (hQ : ∀ h' ks', Heap.SameBut a s.heap h' → (if k ∈ ks then ks'.Perm ks else ks'.Perm (k :: ks)) → TxtSet w h' a ks' → Q .none { s with heap := h', toks := s.toks + 1 }) :
    wpAny (model P w) A (call (.builtin "set.add") [.ref a, .str k tk]) Q E s := by
  refine wpAny_call_entry F.slot_set_add R.type F.entry_set_add ?_ (F.args_set_add_2 _ _)
  unfold Builtin.«set.add» Builtin.Frozenset.oneOther
  simp only [List.isEmpty_nil, bind_assoc]
  unfold Builtin.Frozenset.addrOf setAdd
  refine wpAny_bind (wpAny_pure ?_)
  try dsimp only
  refine wpAny_bind (wpAny_pure ?_)
  try dsimp only
  refine wpAny_bind (wpAny_holding (wpAny_bind ((strKind P w).pyHash (isStr_self (P := P) k tk) ?_)))
  refine txt_add_hashed (s := { s with toks := s.toks + 1 }) R room fun b h' ks' sb pm r => ?_
  exact wpAny_pure ⟨_, rfl, hQ h' ks' sb pm r⟩
end
/-! ### set comprehensions, whatever the kind of set -/
abbrev TSetR := Addr → V → Hp → (Hp → Prop) → Prop
structure SetWay (P : Program) (w : World) (K : PySem.W.Frag) (A : Around) (o0 : Addr → HO) (R : TSetR) : Prop where
  new : ∀ (H : Hp) (h : Heap), sysModules < h.objs.size → ObjOk P w H (h.push (emptySet w)) h.objs.size (o0 h.objs.size)
  put : ∀ (X : Cx), X.prog = P → X.w = w → X.K = K → X.A = A → ∀ (pins : List (Addr × Obj)) (σ : L2.St) (H : Hp) (s : Shared) (E : Value → Shared → Prop) (D : Addr) (y : V) (u : Value) (Nx : Hp → Prop), Inv X pins σ H s → RelV y u → R D y H Nx →
    wpAny (model P w) A (call (.builtin "set.add") [.ref D, u]) (fun _ s' => ∃ H', Inv X pins σ H' s' ∧ Nx H') E s
/-- a set takes a text -/
def rTxt (w : World) : TSetR := fun D y H Nx => ∃ (ks : List Str) (k : Str), y = .str k ∧ H D = some (TxtO w D ks) ∧ ks.length + 1 < scanBound ∧ ∀ ks', (if k ∈ ks then ks'.Perm ks else ks'.Perm (k :: ks)) → Nx (upd H D (TxtO w D ks'))
theorem txt_get {X : Cx} {pins : List (Addr × Obj)} {σ : L2.St} {H : Hp} {s : Shared} {a : Addr} {ks : List Str} (I : Inv X pins σ H s) (ha : H a = some (TxtO X.w a ks)) : TxtSet X.w s.heap a ks := (I.hok a _ ha).1
theorem wayTxt {X : Cx} : SetWay X.prog X.w X.K X.A (fun D => TxtO X.w D []) (rTxt X.w) where
  new := fun H h big => txt_obj (txt_empty (Heap.get?_push_size h rfl))
  put := fun Y hP hw hK hA pins σ H s E D y u Nx I ry h => by
    rw [← hw] at h
    rw [← hP, ← hw, ← hA]
    obtain ⟨ks, k, rfl, hD, hz, nx⟩ := h
    obtain ⟨t, rfl⟩ := ry
    refine txt_add (txt_get I hD) hz fun h' ks' sb pm r => ?_
    obtain ⟨o, _, _, _, ho, _⟩ := id r.ex
    exact ⟨_, I.write (e := D) (t' := s.toks + 1) (by rw [hD]; trivial) (.inl rfl) (fun b v hb hv => (sb.2 b hb).trans hv) ⟨o, ho⟩ (txt_obj r), nx ks' pm⟩
def tScG (o0 : Addr → HO) (R : TSetR) (wi : TI) (g : TG) (tt : TT) (te : TE) (own : List Nat) : TE := fun σ H Q => wi σ H fun J H1 => ∀ D, H1 D = none →
  ∃ W : Nat → Nat → Hp → Prop, (∃ m, W 0 m (upd H1 D (o0 D))) ∧ ∀ i m H2, W i m H2 → (J.stop i H2 ∧ Q (.ref D) H2) ∨ (J.go i H2 ∧
    ∃ Nx : Hp → Prop, (∀ H', Nx H' → ∃ m', m' < m ∧ W (i + 1) m' H') ∧ ∀ x H', J.yld i H2 x H' → g x (wipe σ own) H' fun σ2 H3 => wipe σ2 own = wipe σ own ∧ tt σ2 H3 fun b H4 =>
      if b = true then te σ2 H4 fun y H5 => R D y H5 Nx else Nx H4)
/-- two clauses -/
def tScG2 (o0 : Addr → HO) (R : TSetR) (wi : TI) (g : TG) (tt : TT) (wj : TI) (gj : TG) (tj : TT) (te : TE) (own ownj : List Nat) : TE := fun σ H Q => wi σ H fun J H1 => ∀ D, H1 D = none →
  ∃ W : Nat → Nat → Hp → Prop, (∃ m, W 0 m (upd H1 D (o0 D))) ∧ ∀ i m H2, W i m H2 → (J.stop i H2 ∧ Q (.ref D) H2) ∨ (J.go i H2 ∧
    ∃ Nx : Hp → Prop, (∀ H', Nx H' → ∃ m', m' < m ∧ W (i + 1) m' H') ∧ ∀ x H', J.yld i H2 x H' → g x (wipe σ own) H' fun σ2 H3 => wipe σ2 own = wipe σ own ∧ tt σ2 H3 fun b H4 =>
      if b = true then wj σ2 H4 fun J' H5 => ∃ W' : Nat → Nat → Hp → Prop, (∃ m, W' 0 m H5) ∧ ∀ j k H6, W' j k H6 → (J'.stop j H6 ∧ Nx H6) ∨ (J'.go j H6 ∧
        ∃ Ny : Hp → Prop, (∀ H', Ny H' → ∃ k', k' < k ∧ W' (j + 1) k' H') ∧ ∀ x H', J'.yld j H6 x H' → gj x (wipe σ2 ownj) H' fun σ3 H7 => wipe σ3 ownj = wipe σ2 ownj ∧ tj σ3 H7 fun c H8 =>
          if c = true then te σ3 H8 fun y H9 => R D y H9 Ny else Ny H8)
      else Nx H4)
section
variable {X : Cx} {o0 : Addr → HO} {R : TSetR}
theorem scg {vx tg iter : Expr} {ifs : List Expr} {scope : Scope} {own : List (Str × Nat)} {pos : Pos} {wi : TI} {g : TG} {tt : TT} {te : TE} (way : SetWay X.prog X.w X.K X.A o0 R)
    (calm : X.calm = true) (nd : X.N.Nodup) (pi : PI X tg iter wi) (ok : BlkOk X.N X.env.scope scope own)
    (pgs : ∀ s H C cl fp, PG (X.blk s H scope (compEnvC scope cl C X.env) fp) tg g)
    (pts : ∀ s H C cl fp, PTs (X.blk s H scope (compEnvC scope cl C X.env) fp) ifs tt)
    (pvs : ∀ s H C cl fp, PE (X.blk s H scope (compEnvC scope cl C X.env) fp) vx te)
    (plain : ∀ x, foldedSetIterable iter X.env x = pure x := by intro _; rfl) : PE X (.SetComp vx [⟨tg, iter, ifs, 0⟩] scope pos) (tScG o0 R wi g tt te (own.map (·.2))) := by
  constructor
  intro pins s σ H Q I want
  rw [PpSet.eval_SetComp]
  have caught : ∀ y ∈ scope.names, y.2 = .free → ∃ c, X.env.cells.lookup y.1 = some c := by
    intro y hy e
    exact (ok.free y hy e).elim (fun k => I.ok.has _ (.inl k)) fun k => I.ok.has _ (.inr k)
  refine wpAny_comprehension_free rfl plain (closure_ok caught) ok.kind (fun y hy e => (ok.uniq y hy).trans (by rw [e])) ?_
  refine thn (pi.run pins s σ H _ I want) fun xv s1 hx => thn hx fun itv s2 got => ?_
  obtain ⟨it, fp, tn, J, H2, ei, I2, T, t2, free2, q⟩ := got
  subst ei
  refine PpSet.newSet_ok (newEnv_comp ?_)
  have fresh : H2 s2.heap.objs.size = none := I2.hok.fresh (Nat.le_refl _)
  obtain ⟨W, ⟨m0, w0⟩, turn⟩ := q _ fresh
  have I3 : Inv X pins σ (upd H2 s2.heap.objs.size (o0 s2.heap.objs.size)) { s2 with heap := s2.heap.push (emptySet X.w) } :=
    I2.laid (t' := s2.toks) (fun _ _ e => Heap.get?_push_of_some _ e) (Nat.le_refl _) (way.new _ _ I2.big)
  have below : ∀ b ∈ fp, b < s2.heap.objs.size := fun b hb => let ⟨_, e, _⟩ := T.obj _ _ t2 b hb; Heap.lt_size e
  have free3 : ∀ b ∈ fp, FpOk X pins (upd H2 s2.heap.objs.size (o0 s2.heap.objs.size)) b := fun b hb =>
    ⟨by rw [upd_ne (Nat.ne_of_lt (below b hb))]; exact (free2 b hb).1, (free2 b hb).2⟩
  have t3 : tn 0 (s2.heap.push (emptySet X.w)) := T.keep _ _ _ t2 fun _ _ _ e => Heap.get?_push_of_some _ e
  have I4 := block_start I3 ok nd fun b hb => ⟨free3 b hb, by rw [Heap.size_push]; exact Nat.lt_succ_of_lt (below b hb)⟩
  generalize hs3 : ({ s2 with heap := s2.heap.push (emptySet X.w) } : Shared) = s3 at I3 I4
  have eh3 : s2.heap.push (emptySet X.w) = s3.heap := by rw [← hs3]
  rw [eh3] at t3
  have t4 : tn 0 (pushCells (s3.heap.push { cls := .type "dict", data := .dict #[] }) scope.names) := T.keep _ _ _ t3 fun _ _ _ e => pushCells_keeps _ _ _ _ (Heap.get?_push_of_some _ e)
  have go : ∀ (ce : Env) (H3 : Hp) (s4 : Shared), ce.locals = s3.heap.objs.size → Inv X pins σ H3 s3 → Inv (X.blk s3 H3 scope ce fp) [] (wipe σ (own.map (·.2))) H3 s4 → tn 0 s4.heap → (∀ b ∈ fp, FpOk X pins H3 b) → W 0 m0 H3 →
      PG (X.blk s3 H3 scope ce fp) tg g → PTs (X.blk s3 H3 scope ce fp) ifs tt → PE (X.blk s3 H3 scope ce fp) vx te →
      codeAny (model X.prog X.w) X.A (.compLoop (.SetComp vx [⟨tg, iter, ifs, 0⟩] scope pos) 0 (.ref it) (.ref s2.heap.objs.size) ce) (compPost (model X.prog X.w) X.A X.xe none (EP X pins σ Q) (.ref s2.heap.objs.size) s3.heap.objs.size) s4 := by
    intro ce H3 s4 hL J3 J4 st f3 ww pg pt pv
    have held : ∀ {σ' : L2.St} {H' : Hp} {s' : Shared}, Inv (X.blk s3 H3 scope ce fp) [] σ' H' s' → (∀ b ∈ fp, H' b = none) → ∀ b ∈ fp, FpOk (X.blk s3 H3 scope ce fp) [] H' b := by
      intro σ' H' s' I' hn b hb
      exact ⟨hn b hb, (I'.ok.exf b hb).1, I'.ok.exfs b hb, .inl hb, fun x c e => (I'.ok.exf b hb).2 x c e, fun p hp => by simp at hp⟩
    refine PpSet.compLoopS_any (fun n s' => ∃ i H', Inv (X.blk s3 H3 scope ce fp) [] (wipe σ (own.map (·.2))) H' s' ∧ tn i s'.heap ∧ (∀ b ∈ fp, H' b = none) ∧ W i n H') ?_ m0 ⟨0, H3, J4, st, fun b hb => (f3 b hb).1, ww⟩
    rintro n s5 ⟨i, H5, I5, t5, n5, w5⟩
    rcases turn i n H5 w5 with ⟨stop, qq⟩ | ⟨more, Nx, hNx, step⟩
    · refine thnF (T.done (X.blk s3 H3 scope ce fp) rfl rfl rfl calm i [] s5 _ H5 (fun _ _ => False) I5 (held I5 n5) t5 stop) fun r s6 ⟨hr, I6⟩ => ?_
      subst hr
      have I7 : Inv X pins σ H5 s6 := J3.call' (ch := fp) I6.os I6.base I6.hok I6.bare fun b hb => ⟨(f3 b hb).2.2.2.1, (f3 b hb).2.1, (f3 b hb).2.2.2.2.1, (f3 b hb).2.2.2.2.2⟩
      have gone : H5 s3.heap.objs.size = none := by rw [← hL]; exact I6.free
      obtain ⟨m, hn, _⟩ := I6.loc
      have hn : s6.heap.Ns ce.locals m := hn
      rw [hL] at hn
      obtain ⟨f0, f1, f2, f3', f4, f5⟩ := J3.fpOk (Nat.le_refl _) gone
      exact ⟨m, hn, fun h'' sb => ⟨.ref _, H5, I7.turned (t' := s6.toks) (fun b o hb e => (sb.2 b hb).trans e) f0 f1 f3' f4 f5, rfl, qq⟩⟩
    · refine thnF (T.item (X.blk s3 H3 scope ce fp) rfl rfl rfl calm i [] s5 _ H5 (fun _ _ => False) I5 (held I5 n5) t5 more) fun r s6 ⟨u, hr, h6⟩ => ?_
      subst hr
      refine thnF h6 fun _ s7 ⟨x, H7, I7, r7, y7, t7, n7⟩ => ?_
      refine thnF (pg.run _ s7 _ H7 x u _ (I7.pinned (held I7 n7) (T.obj _ _ t7)) r7 (step x H7 y7)) fun _ s8 ⟨σ8, H8, I8, e8, q8⟩ => ?_
      refine thnF (pt.run _ s8 σ8 H8 _ I8 q8) fun b s9 ⟨H9, I9, q9⟩ => ?_
      have close : ∀ {s' : Shared} {H' : Hp}, Inv (X.blk s3 H3 scope ce fp) ([] ++ pinsAt fp s7.heap) σ8 H' s' → Nx H' → ∃ m, m < n ∧ ∃ i H', Inv (X.blk s3 H3 scope ce fp) [] (wipe σ (own.map (·.2))) H' s' ∧ tn i s'.heap ∧ (∀ b ∈ fp, H' b = none) ∧ W i m H' := by
        intro s' H' I' nx
        obtain ⟨m', lt, w'⟩ := hNx H' nx
        have still : ∀ b ∈ fp, ∀ o, s7.heap.get? b = some o → s'.heap.get? b = some o ∧ H' b = none := by
          intro b hb o e
          have z := I'.pin (b, o) (List.mem_append_right _ (List.mem_append_right _ (mem_pinsAt hb e)))
          exact ⟨z.1, z.2.1⟩
        refine ⟨m', lt, i + 1, H', (I'.unpinned (pins := [])).weak (by rw [← e8, wipe_length]) ?_, T.keep _ _ _ t7 fun b hb o e => (still b hb o e).1, ?_, w'⟩
        · intro j v e
          rw [← e8] at e
          exact (wipe_some e).1
        · intro b hb
          obtain ⟨o, e, _⟩ := T.obj _ _ t7 b hb
          exact (still b hb o e).2
      cases b with
      | false => exact close I9 q9
      | true =>
        rw [if_pos rfl] at q9 ⊢
        refine thnF (pv.run _ s9 σ8 H9 _ I9 q9) fun vv s11 ⟨z, H11, I11, r11, q11⟩ => ?_
        exact thnF (way.put (X.blk s3 H3 scope ce fp) rfl rfl rfl rfl _ σ8 H11 s11 (fun _ _ => False) _ z vv Nx I11 r11 q11) fun _ s12 ⟨H12, I12, nx⟩ => close I12 nx
  have go4 := go _ _ _ rfl I3 I4 t4 free3 w0 (pgs _ _ _ _ _) (pts _ _ _ _ _) (pvs _ _ _ _ _)
  exact PpSet.codeAny_compStart_set go4 (T.self X.A 0 _ _ _ t4 go4)
end
end DL

namespace DL
open PySem PySem.Spec PyProof.Rows L2

/-! ### set comprehensions of two clauses -/
section
variable {prog : Program} {w : World} {A : Around} {R : Result → Shared → Prop} {vx tga ita tgb itb : Expr} {ca cb : List Expr} {scope : Scope} {pos : Pos} {acc : Value} {env : Env}
abbrev setC (vx tga ita tgb itb : Expr) (ca cb : List Expr) (scope : Scope) (pos : Pos) : Expr := .SetComp vx [⟨tga, ita, ca, 0⟩, ⟨tgb, itb, cb, 0⟩] scope pos
theorem turn_first (i : Value) : compTurn (setC vx tga ita tgb itb ca cb scope pos) 0 i acc env = (standAt ita.pos >>= fun _ => pyNext i >>= fun got => match got with
    | none => pure (.done .next)
    | some v => letOwnedTupleGo tga i v >>= fun _ => assign tga env v >>= fun _ =>
        (forIn ca true fun c r => if r = true then do let ok ← isTrue c env (eval c env); pure (ForInStep.yield ok) else pure (ForInStep.yield r)) >>= fun ok =>
        (if ok = true then (eval itb env >>= fun y => standAt itb.pos >>= fun _ => foldedSetIterable itb env y >>= fun y => holding [y] (pyIter y) >>= fun y =>
            runOwn (.compStart (setC vx tga ita tgb itb ca cb scope pos) 1 y acc env) env >>= fun _ => again (.compLoop (setC vx tga ita tgb itb ca cb scope pos) 0 i acc env))
          else again (.compLoop (setC vx tga ita tgb itb ca cb scope pos) 0 i acc env))) := by rfl
theorem turn_second (i : Value) : compTurn (setC vx tga ita tgb itb ca cb scope pos) 1 i acc env = (standAt itb.pos >>= fun _ => pyNext i >>= fun got => match got with
    | none => pure (.done .next)
    | some v => letOwnedTupleGo tgb i v >>= fun _ => assign tgb env v >>= fun _ =>
        (forIn cb true fun c r => if r = true then do let ok ← isTrue c env (eval c env); pure (ForInStep.yield ok) else pure (ForInStep.yield r)) >>= fun ok =>
        (if ok = true then ((eval vx env >>= fun y => standAt vx.pos >>= fun _ => call (.builtin "set.add") [acc, y] >>= fun _ => pure ⟨⟩) >>= fun (_ : PUnit) => again (.compLoop (setC vx tga ita tgb itb ca cb scope pos) 1 i acc env))
          else again (.compLoop (setC vx tga ita tgb itb ca cb scope pos) 1 i acc env))) := by rfl
variable {s : Shared} {it : Value}
/-- what is raised within is noted, and goes on -/
abbrev NB (prog : Program) (w : World) (A : Around) (env : Env) (R : Result → Shared → Prop) : Value → Shared → Prop := notedBy (model prog w) A env fun e s' => R (.error e) s'
abbrev tests (cs : List Expr) (env : Env) : Sem Bool := forIn cs true fun c r => if r = true then do let ok ← isTrue c env (eval c env); pure (ForInStep.yield ok) else pure (ForInStep.yield r)
theorem loop_second (I : Nat → Shared → Prop)
    (turn : ∀ n s, I n s → wpAny (model prog w) A (pyNext it) (fun r s₁ => match r with
      | none => R (.ok .next) s₁
      | some v => wpAny (model prog w) A (letOwnedTupleGo tgb it v) (fun _ s₂ => wpAny (model prog w) A (assign tgb env v) (fun _ s₃ => wpAny (model prog w) A (tests cb env) (fun ok s₄ =>
          if ok = true then wpAny (model prog w) A (eval vx env) (fun y s₅ => wpAny (model prog w) A (call (.builtin "set.add") [acc, y]) (fun _ s₆ => ∃ m, m < n ∧ I m s₆) (NB prog w A env R) s₅) (NB prog w A env R) s₄
          else ∃ m, m < n ∧ I m s₄) (NB prog w A env R) s₃) (NB prog w A env R) s₂) (NB prog w A env R) s₁) (NB prog w A env R) s)
    (n : Nat) (h : I n s) : codeAny (model prog w) A (.compLoop (setC vx tga ita tgb itb ca cb scope pos) 1 it acc env) R s := by
  refine codeAny_loop rfl I (fun n s hI => ?_) n h
  show wpAny _ A ((compTurn (setC vx tga ita tgb itb ca cb scope pos) 1 it acc env).onRaise (fun x => do noteFrame x env; theTreesLotGoes x)) _ _ s
  refine wpAny_noted ?_
  rw [turn_second]
  refine wpAny_bind (wpAny_standAt (wpAny_bind (thn (turn n s hI) fun r s₁ k₁ => ?_)))
  cases r with
  | none => exact wpAny_pure k₁
  | some v =>
    refine wpAny_bind (thn k₁ fun _ s₂ k₂ => wpAny_bind (thn k₂ fun _ s₃ k₃ => wpAny_bind (thn k₃ fun ok s₄ k₄ => ?_)))
    cases ok with
    | false => exact wpAny_pure ⟨rfl, k₄⟩
    | true => exact wpAny_bind (wpAny_bind (thn k₄ fun y s₅ k₅ => wpAny_bind (wpAny_standAt (wpAny_bind (thn k₅ fun _ s₆ k₆ => wpAny_pure (wpAny_pure ⟨rfl, k₆⟩))))))
theorem loop_first (hs : ∀ y, foldedSetIterable itb env y = pure y) (I : Nat → Shared → Prop)
    (turn : ∀ n s, I n s → wpAny (model prog w) A (pyNext it) (fun r s₁ => match r with
      | none => R (.ok .next) s₁
      | some v => wpAny (model prog w) A (letOwnedTupleGo tga it v) (fun _ s₂ => wpAny (model prog w) A (assign tga env v) (fun _ s₃ => wpAny (model prog w) A (tests ca env) (fun ok s₄ =>
          if ok = true then wpAny (model prog w) A (eval itb env) (fun y s₅ => wpAny (model prog w) A (pyIter y) (fun j s₆ =>
              codeAny (model prog w) A (.compStart (setC vx tga ita tgb itb ca cb scope pos) 1 j acc env) (fun r s₇ => match r with
                | .ok _ => ∃ m, m < n ∧ I m s₇
                | .error _ => False) s₆) (NB prog w A env R) s₅) (NB prog w A env R) s₄
          else ∃ m, m < n ∧ I m s₄) (NB prog w A env R) s₃) (NB prog w A env R) s₂) (NB prog w A env R) s₁) (NB prog w A env R) s)
    (n : Nat) (h : I n s) : codeAny (model prog w) A (.compLoop (setC vx tga ita tgb itb ca cb scope pos) 0 it acc env) R s := by
  refine codeAny_loop rfl I (fun n s hI => ?_) n h
  show wpAny _ A ((compTurn (setC vx tga ita tgb itb ca cb scope pos) 0 it acc env).onRaise (fun x => do noteFrame x env; theTreesLotGoes x)) _ _ s
  refine wpAny_noted ?_
  rw [turn_first]
  refine wpAny_bind (wpAny_standAt (wpAny_bind (thn (turn n s hI) fun r s₁ k₁ => ?_)))
  cases r with
  | none => exact wpAny_pure k₁
  | some v =>
    refine wpAny_bind (thn k₁ fun _ s₂ k₂ => wpAny_bind (thn k₂ fun _ s₃ k₃ => wpAny_bind (thn k₃ fun ok s₄ k₄ => ?_)))
    cases ok with
    | false => exact wpAny_pure ⟨rfl, k₄⟩
    | true =>
      refine wpAny_bind (thn k₄ fun y s₅ k₅ => wpAny_bind (wpAny_standAt (wpAny_bind (wpAny_of_eq (hs y) (wpAny_bind (wpAny_holding (thn k₅ fun j s₆ k₆ => ?_)))))))
      refine wpAny_bind (wpAny_runOwn ?_)
      rw [Around.mark_none]
      refine codeAny_mono k₆ fun r s₇ k₇ => ?_
      cases r with
      | error e => exact k₇.elim
      | ok f => first | exact wpAny_pure ⟨rfl, k₇⟩ | exact wpAny_bind (wpAny_pure (wpAny_pure ⟨rfl, k₇⟩))
theorem start_second (h0 : codeAny (model prog w) A (.compLoop (setC vx tga ita tgb itb ca cb scope pos) 1 it acc env) R s)
    (h : wpAny (model prog w) A (pyIter it) (fun j s' => codeAny (model prog w) A (.compLoop (setC vx tga ita tgb itb ca cb scope pos) 1 j acc env) R s') (NB prog w A env R) s) : codeAny (model prog w) A (.compStart (setC vx tga ita tgb itb ca cb scope pos) 1 it acc env) R s := by
  refine codeAny_of_tree ?_
  show wpAny _ _ ((compStart (setC vx tga ita tgb itb ca cb scope pos) 1 it acc env).onRaise (fun x => do noteFrame x env; standAt theWindowsPlace)) _ _ s
  refine wpAny_notedAt ?_
  unfold compStart
  show wpAny _ _ (ask >>= _) _ _ s
  refine wpAny_bind (wpAny_askSetting (wpAny_ite ?_))
  split
  · first | exact wpAny_bind (wpAny_pure (wpAny_pure ⟨rfl, h0⟩)) | exact wpAny_pure ⟨rfl, h0⟩
  · refine wpAny_bind (wpAny_rule ?_)
    show wpAny _ _ (standAt itb.pos >>= _) _ _ s
    refine wpAny_bind (wpAny_standAt (wpAny_bind (thn h fun j s' k => ?_)))
    exact wpAny_pure ⟨rfl, k⟩
end
end DL

namespace DL
open PySem PySem.Spec PyProof.Rows L2
section
variable {X : Cx} {o0 : Addr → HO} {R : TSetR}
theorem scg2 {vx tga ita tgb itb : Expr} {ca cb : List Expr} {scope : Scope} {own : List (Str × Nat)} {ownj : List Nat} {pos : Pos} {wi wj : TI} {g gj : TG} {tt tj : TT} {te : TE} (way : SetWay X.prog X.w X.K X.A o0 R)
    (calm : X.calm = true) (nd : X.N.Nodup) (pi : PI X tga ita wi) (ok : BlkOk X.N X.env.scope scope own) (sub : ∀ i ∈ ownj, i ∈ own.map (·.2))
    (pga : ∀ s H C cl fp, PG (X.blk s H scope (compEnvC scope cl C X.env) fp) tga g)
    (pta : ∀ s H C cl fp, PTs (X.blk s H scope (compEnvC scope cl C X.env) fp) ca tt)
    (pib : ∀ s H C cl fp, PI (X.blk s H scope (compEnvC scope cl C X.env) fp) tgb itb wj)
    (pgb : ∀ s H C cl fp, PG (X.blk s H scope (compEnvC scope cl C X.env) fp) tgb gj)
    (ptb : ∀ s H C cl fp, PTs (X.blk s H scope (compEnvC scope cl C X.env) fp) cb tj)
    (pvs : ∀ s H C cl fp, PE (X.blk s H scope (compEnvC scope cl C X.env) fp) vx te)
    (plain : ∀ x, foldedSetIterable ita X.env x = pure x := by intro _; rfl) (plainb : ∀ env x, foldedSetIterable itb env x = pure x := by intro _ _; rfl) :
    PE X (.SetComp vx [⟨tga, ita, ca, 0⟩, ⟨tgb, itb, cb, 0⟩] scope pos) (tScG2 o0 R wi g tt wj gj tj te (own.map (·.2)) ownj) := by
  constructor
  intro pins s σ H Q I want
  rw [PpSet.eval_SetComp]
  have caught : ∀ y ∈ scope.names, y.2 = .free → ∃ c, X.env.cells.lookup y.1 = some c := by
    intro y hy e
    exact (ok.free y hy e).elim (fun k => I.ok.has _ (.inl k)) fun k => I.ok.has _ (.inr k)
  refine wpAny_comprehension_free rfl plain (closure_ok caught) ok.kind (fun y hy e => (ok.uniq y hy).trans (by rw [e])) ?_
  refine thn (pi.run pins s σ H _ I want) fun xv s1 hx => thn hx fun itv s2 got => ?_
  obtain ⟨it, fp, tn, J, H2, ei, I2, T, t2, free2, q⟩ := got
  subst ei
  refine PpSet.newSet_ok (newEnv_comp ?_)
  have fresh : H2 s2.heap.objs.size = none := I2.hok.fresh (Nat.le_refl _)
  obtain ⟨W, ⟨m0, w0⟩, turn⟩ := q _ fresh
  have I3 : Inv X pins σ (upd H2 s2.heap.objs.size (o0 s2.heap.objs.size)) { s2 with heap := s2.heap.push (emptySet X.w) } :=
    I2.laid (t' := s2.toks) (fun _ _ e => Heap.get?_push_of_some _ e) (Nat.le_refl _) (way.new _ _ I2.big)
  have below : ∀ b ∈ fp, b < s2.heap.objs.size := fun b hb => let ⟨_, e, _⟩ := T.obj _ _ t2 b hb; Heap.lt_size e
  have free3 : ∀ b ∈ fp, FpOk X pins (upd H2 s2.heap.objs.size (o0 s2.heap.objs.size)) b := fun b hb =>
    ⟨by rw [upd_ne (Nat.ne_of_lt (below b hb))]; exact (free2 b hb).1, (free2 b hb).2⟩
  have t3 : tn 0 (s2.heap.push (emptySet X.w)) := T.keep _ _ _ t2 fun _ _ _ e => Heap.get?_push_of_some _ e
  have I4 := block_start I3 ok nd fun b hb => ⟨free3 b hb, by rw [Heap.size_push]; exact Nat.lt_succ_of_lt (below b hb)⟩
  generalize hs3 : ({ s2 with heap := s2.heap.push (emptySet X.w) } : Shared) = s3 at I3 I4
  have eh3 : s2.heap.push (emptySet X.w) = s3.heap := by rw [← hs3]
  rw [eh3] at t3
  have t4 : tn 0 (pushCells (s3.heap.push { cls := .type "dict", data := .dict #[] }) scope.names) := T.keep _ _ _ t3 fun _ _ _ e => pushCells_keeps _ _ _ _ (Heap.get?_push_of_some _ e)
  have go : ∀ (ce : Env) (H3 : Hp) (s4 : Shared), ce.locals = s3.heap.objs.size → Inv X pins σ H3 s3 → Inv (X.blk s3 H3 scope ce fp) [] (wipe σ (own.map (·.2))) H3 s4 → tn 0 s4.heap → (∀ b ∈ fp, FpOk X pins H3 b) → W 0 m0 H3 →
      PG (X.blk s3 H3 scope ce fp) tga g → PTs (X.blk s3 H3 scope ce fp) ca tt → PI (X.blk s3 H3 scope ce fp) tgb itb wj → PG (X.blk s3 H3 scope ce fp) tgb gj → PTs (X.blk s3 H3 scope ce fp) cb tj → PE (X.blk s3 H3 scope ce fp) vx te →
      codeAny (model X.prog X.w) X.A (.compLoop (setC vx tga ita tgb itb ca cb scope pos) 0 (.ref it) (.ref s2.heap.objs.size) ce) (compPost (model X.prog X.w) X.A X.xe none (EP X pins σ Q) (.ref s2.heap.objs.size) s3.heap.objs.size) s4 := by
    intro ce H3 s4 hL J3 J4 st f3 ww pg pt pj pgj ptj pv
    let Y := X.blk s3 H3 scope ce fp
    have held : ∀ {σ' : L2.St} {H' : Hp} {s' : Shared}, Inv Y [] σ' H' s' → (∀ b ∈ fp, H' b = none) → ∀ b ∈ fp, FpOk Y [] H' b := by
      intro σ' H' s' I' hn b hb
      exact ⟨hn b hb, (I'.ok.exf b hb).1, I'.ok.exfs b hb, .inl hb, fun x c e => (I'.ok.exf b hb).2 x c e, fun p hp => absurd (show p ∈ ([] : List (Addr × Obj)) ++ [] from hp) (by simp)⟩
    refine loop_first (plainb ce) (fun n s' => ∃ i H', Inv Y [] (wipe σ (own.map (·.2))) H' s' ∧ tn i s'.heap ∧ (∀ b ∈ fp, H' b = none) ∧ W i n H') ?_ m0 ⟨0, H3, J4, st, fun b hb => (f3 b hb).1, ww⟩
    rintro n s5 ⟨i, H5, I5, t5, n5, w5⟩
    rcases turn i n H5 w5 with ⟨stop, qq⟩ | ⟨more, Nx, hNx, step⟩
    · refine thnF (T.done Y rfl rfl rfl calm i [] s5 _ H5 (fun _ _ => False) I5 (held I5 n5) t5 stop) fun r s6 ⟨hr, I6⟩ => ?_
      subst hr
      have I7 : Inv X pins σ H5 s6 := J3.call' (ch := fp) I6.os I6.base I6.hok I6.bare fun b hb => ⟨(f3 b hb).2.2.2.1, (f3 b hb).2.1, (f3 b hb).2.2.2.2.1, (f3 b hb).2.2.2.2.2⟩
      have gone : H5 s3.heap.objs.size = none := by rw [← hL]; exact I6.free
      obtain ⟨m, hn, _⟩ := I6.loc
      have hn : s6.heap.Ns ce.locals m := hn
      rw [hL] at hn
      obtain ⟨f0, f1, f2, f3', f4, f5⟩ := J3.fpOk (Nat.le_refl _) gone
      exact ⟨m, hn, fun h'' sb => ⟨.ref _, H5, I7.turned (t' := s6.toks) (fun b o hb e => (sb.2 b hb).trans e) f0 f1 f3' f4 f5, rfl, qq⟩⟩
    · refine thnF (T.item Y rfl rfl rfl calm i [] s5 _ H5 (fun _ _ => False) I5 (held I5 n5) t5 more) fun r s6 ⟨u, hr, h6⟩ => ?_
      subst hr
      refine thnF h6 fun _ s7 ⟨x, H7, I7, r7, y7, t7, n7⟩ => ?_
      refine thnF (pg.run _ s7 _ H7 x u _ (I7.pinned (held I7 n7) (T.obj _ _ t7)) r7 (step x H7 y7)) fun _ s8 ⟨σ8, H8, I8, e8, q8⟩ => ?_
      refine thnF (pt.run _ s8 σ8 H8 _ I8 q8) fun b s9 ⟨H9, I9, q9⟩ => ?_
      -- the turn is over
      have close : ∀ {σ9 : L2.St} {s' : Shared} {H' : Hp}, Inv Y ([] ++ pinsAt fp s7.heap) σ9 H' s' → (σ9 = σ8 ∨ σ9 = wipe σ8 ownj) → Nx H' → ∃ m, m < n ∧ ∃ i H', Inv Y [] (wipe σ (own.map (·.2))) H' s' ∧ tn i s'.heap ∧ (∀ b ∈ fp, H' b = none) ∧ W i m H' := by
        intro σ9 s' H' I' h9 nx
        obtain ⟨m', lt, w'⟩ := hNx H' nx
        have still : ∀ b ∈ fp, ∀ o, s7.heap.get? b = some o → s'.heap.get? b = some o ∧ H' b = none := by
          intro b hb o e
          have z := I'.pin (b, o) (List.mem_append_right _ (List.mem_append_right _ (mem_pinsAt hb e)))
          exact ⟨z.1, z.2.1⟩
        have len9 : (wipe σ (own.map (·.2))).length = σ9.length := by
          rcases h9 with rfl | rfl
          · rw [← e8, wipe_length]
          · rw [← e8, wipe_length, wipe_length]
        refine ⟨m', lt, i + 1, H', (I'.unpinned (pins := [])).weak len9 ?_, T.keep _ _ _ t7 fun b hb o e => (still b hb o e).1, ?_, w'⟩
        · intro j v e
          rw [← e8] at e
          obtain ⟨z1, z2⟩ := wipe_some e
          rcases h9 with rfl | rfl
          · exact z1
          · rw [wipe_out fun z => z2 (sub j z)]; exact z1
        · intro b hb
          obtain ⟨o, e, _⟩ := T.obj _ _ t7 b hb
          exact (still b hb o e).2
      cases b with
      | false => exact close I9 (.inl rfl) q9
      | true =>
        rw [if_pos rfl] at q9 ⊢
        refine thnF (pj.run _ s9 σ8 H9 _ I9 q9) fun yv s10 hy => thnF hy fun itw s11 got => ?_
        obtain ⟨jt, fq, tm, J', H11, ej, I11, T', t11, free11, W', ⟨m1, w1⟩, turn'⟩ := got
        subst ej
        have stay : ∀ {H' : Hp}, (∀ b ∈ fq, H' b = none) → ∀ b ∈ fq, FpOk Y ([] ++ pinsAt fp s7.heap) H' b := fun hn b hb => ⟨hn b hb, (free11 b hb).2⟩
        have inner : codeAny (model X.prog X.w) X.A (.compLoop (setC vx tga ita tgb itb ca cb scope pos) 1 (.ref jt) (.ref s2.heap.objs.size) ce)
            (fun r s' => match r with
              | .ok _ => ∃ m, m < n ∧ ∃ i H', Inv Y [] (wipe σ (own.map (·.2))) H' s' ∧ tn i s'.heap ∧ (∀ b ∈ fp, H' b = none) ∧ W i m H'
              | .error _ => False) s11 := by
          refine loop_second (fun k s' => ∃ j H', Inv Y ([] ++ pinsAt fp s7.heap) (wipe σ8 ownj) H' s' ∧ tm j s'.heap ∧ (∀ b ∈ fq, H' b = none) ∧ W' j k H') ?_ m1 ⟨0, H11, I11.weak (wipe_length _ _) (fun j v e => (wipe_some e).1), t11, fun b hb => (free11 b hb).1, w1⟩
          rintro k s12 ⟨j, H12, I12, t12, n12, w12⟩
          rcases turn' j k H12 w12 with ⟨stop', nx⟩ | ⟨more', Ny, hNy, step'⟩
          · refine thnF (T'.done Y rfl rfl rfl calm j _ s12 (wipe σ8 ownj) H12 (fun _ _ => False) I12 (stay n12) t12 stop') fun r s13 ⟨hr, I13⟩ => ?_
            subst hr
            exact close I13 (.inr rfl) nx
          · refine thnF (T'.item Y rfl rfl rfl calm j _ s12 (wipe σ8 ownj) H12 (fun _ _ => False) I12 (stay n12) t12 more') fun r s13 ⟨u', hr, h13⟩ => ?_
            subst hr
            refine thnF h13 fun _ s14 ⟨x', H14, I14, r14, y14, t14, n14⟩ => ?_
            refine thnF (pgj.run _ s14 (wipe σ8 ownj) H14 x' u' _ (I14.pinned (stay n14) (T'.obj _ _ t14)) r14 (step' x' H14 y14)) fun _ s15 ⟨σ15, H15, I15, e15, q15⟩ => ?_
            refine thnF (ptj.run _ s15 σ15 H15 _ I15 q15) fun b' s16 ⟨H16, I16, q16⟩ => ?_
            have close' : ∀ {s' : Shared} {H' : Hp}, Inv Y (([] ++ pinsAt fp s7.heap) ++ pinsAt fq s14.heap) σ15 H' s' → Ny H' → ∃ m, m < k ∧ ∃ j H', Inv Y ([] ++ pinsAt fp s7.heap) (wipe σ8 ownj) H' s' ∧ tm j s'.heap ∧ (∀ b ∈ fq, H' b = none) ∧ W' j m H' := by
              intro s' H' I' ny
              obtain ⟨k', lt, w'⟩ := hNy H' ny
              have still : ∀ b ∈ fq, ∀ o, s14.heap.get? b = some o → s'.heap.get? b = some o ∧ H' b = none := by
                intro b hb o e
                have z := I'.pin (b, o) (List.mem_append_right _ (List.mem_append_right _ (mem_pinsAt hb e)))
                exact ⟨z.1, z.2.1⟩
              refine ⟨k', lt, j + 1, H', I'.unpinned.weak (by rw [← e15, wipe_length]) (fun j v e => ?_), T'.keep _ _ _ t14 fun b hb o e => (still b hb o e).1, fun b hb => ?_, w'⟩
              · rw [← e15] at e; exact (wipe_some e).1
              · obtain ⟨o, e, _⟩ := T'.obj _ _ t14 b hb
                exact (still b hb o e).2
            cases b' with
            | false => exact close' I16 q16
            | true =>
              rw [if_pos rfl] at q16 ⊢
              refine thnF (pv.run _ s16 σ15 H16 _ I16 q16) fun vv s17 ⟨z, H17, I17, r17, q17⟩ => ?_
              exact thnF (way.put Y rfl rfl rfl rfl _ σ15 H17 s17 (fun _ _ => False) _ z vv Ny I17 r17 q17) fun _ s18 ⟨H18, I18, ny⟩ => close' I18 ny
        exact start_second inner (T'.self X.A 0 _ _ _ t11 inner)
  have go4 := go _ _ _ rfl I3 I4 t4 free3 w0 (pga _ _ _ _ _) (pta _ _ _ _ _) (pib _ _ _ _ _) (pgb _ _ _ _ _) (ptb _ _ _ _ _) (pvs _ _ _ _ _)
  exact PpSet.codeAny_compStart_set go4 (T.self X.A 0 _ _ _ t4 go4)
end
end DL

namespace DL
open PySem PySem.Spec PyProof.Rows L2

/-! ### what a set of texts holds, whatever its order -/
structure IsSet (ks xs : List Str) : Prop where
  nd : ks.Nodup
  mem : ∀ x, x ∈ ks ↔ x ∈ xs
theorem IsSet.nil : IsSet [] [] := ⟨List.nodup_nil, fun _ => Iff.rfl⟩
theorem IsSet.add {ks ks' xs : List Str} {k : Str} (h : IsSet ks xs) (p : if k ∈ ks then ks'.Perm ks else ks'.Perm (k :: ks)) : IsSet ks' (xs ++ [k]) := by
  by_cases q : k ∈ ks
  · rw [if_pos q] at p
    refine ⟨p.nodup_iff.mpr h.nd, fun x => ?_⟩
    rw [p.mem_iff, h.mem, List.mem_append, List.mem_singleton]
    exact ⟨.inl, fun z => z.elim id fun e => by subst e; exact (h.mem x).mp q⟩
  · rw [if_neg q] at p
    refine ⟨p.nodup_iff.mpr (List.nodup_cons.mpr ⟨q, h.nd⟩), fun x => ?_⟩
    rw [p.mem_iff, List.mem_cons, h.mem, List.mem_append, List.mem_singleton]
    exact Or.comm
theorem IsSet.len {ks xs us : List Str} (h : IsSet ks xs) (hu : ∀ x ∈ xs, x ∈ us) : ks.length ≤ us.length := h.nd.length_le_of_subset fun x hx => hu x ((h.mem x).mp hx)
/-- ascending, each once -/
structure SrtSet (ys xs : List Str) : Prop where
  srt : sortedS ys = true
  nd : ys.Nodup
  mem : ∀ x, x ∈ ys ↔ x ∈ xs
theorem rising_pw : ∀ (l : List Str) (p : Str), risingS p l = true → (p :: l).Pairwise fun a b => a.cps.toList ≤ b.cps.toList
  | [], p, _ => by simp
  | x :: l, p, h => by
    rw [risingS, Bool.and_eq_true] at h
    have h1 : p.cps.toList ≤ x.cps.toList := by
      have := h.1
      rw [ltCps_eq, Bool.not_eq_true', decide_eq_false_iff_not] at this
      exact List.not_lt.mp this
    have ih := rising_pw l x h.2
    refine List.pairwise_cons.mpr ⟨fun y hy => ?_, ih⟩
    rcases List.mem_cons.mp hy with e | hy
    · subst e; exact h1
    · exact List.le_trans h1 ((List.pairwise_cons.mp ih).1 y hy)
theorem sorted_pw (l : List Str) (h : sortedS l = true) : l.Pairwise fun a b => a.cps.toList ≤ b.cps.toList := by
  cases l with
  | nil => simp
  | cons x l => exact rising_pw l x h
theorem SrtSet.unique {ys zs xs us : List Str} (h : SrtSet ys xs) (h' : SrtSet zs us) (e : ∀ x, x ∈ xs ↔ x ∈ us) : ys = zs := by
  refine List.Perm.eq_of_pairwise (le := fun a b : Str => a.cps.toList ≤ b.cps.toList) (fun a b _ _ h1 h2 => ?_) (sorted_pw _ h.srt) (sorted_pw _ h'.srt) ((List.perm_ext_iff_of_nodup h.nd h'.nd).mpr fun x => ?_)
  · exact PySem.W.str_of_cps (List.le_antisymm h1 h2)
  · rw [h.mem, h'.mem, e]
theorem SrtSet.of {ys ks xs : List Str} (h : IsSet ks xs) (p : ys.Perm ks) (s : sortedS ys = true) : SrtSet ys xs := ⟨s, p.nodup_iff.mpr h.nd, fun x => by rw [p.mem_iff, h.mem]⟩
/-! ### sorted and len -/
def rSortedTx (w : World) : List V → Hp → VK → Prop := fun vs H Q => ∃ (a : Addr) (ks : List Str), vs = [.ref a] ∧ H a = some (TxtO w a ks) ∧ ks.length < 64 ∧ ∀ (ys : List Str) (p : Addr), ys.Perm ks → sortedS ys = true → H p = none → Q (.ref p) (upd H p (.lst (ys.map V.str)))
def rLenTx (w : World) : List V → Hp → VK → Prop := fun vs H Q => ∃ (a : Addr) (ks : List Str), vs = [.ref a] ∧ H a = some (TxtO w a ks) ∧ Q (.int ks.length) H
section
variable {X : Cx}
theorem call_sortedTx (hc : X.calm = true) : CallR X (.builtin "sorted") (rSortedTx X.w) := by
  intro pins s σ H vs us Q I r h
  obtain ⟨a, ks, rfl, ha, h64, q⟩ := h
  rw [Vals.ref1 r]
  refine txt_sorted (txt_get I ha) (I.ok.hd hc) h64 fun s' p out c ys k g o hp hg hi pm hs => ?_
  have hlen : (ys.map V.str).length ≤ sizeLine := by rw [List.length_map, pm.length_eq]; exact small64 h64
  have hn : H p = none := I.hok.fresh hp
  have J : Inv X pins σ (upd H p (.lst (ys.map V.str))) { s with heap := s'.heap, gens := s'.gens, drawn := s'.drawn, toks := s'.toks } :=
    I.call (ch := []) (Un.laid k hp hn) (I.hok.laid k hp ⟨hlen, out.toList, c, vals_of_strs hi, hg⟩) (by rw [g]; exact I.bare) (fun _ z => nomatch z)
  obtain ⟨h1, h2, h3, h4, h5⟩ := s'
  have o : h5 = s.os := o
  subst o
  exact ⟨.ref p, _, J, rfl, q ys p pm hs hn⟩
theorem call_lenTx : CallR X (.builtin "len") (rLenTx X.w) := by
  intro pins s σ H vs us Q I r h
  obtain ⟨a, ks, rfl, ha, q⟩ := h
  rw [Vals.ref1 r]
  obtain ⟨o, es, ep, t, ho, hex, hd, g, e, nd, hb, hf, hr, hl⟩ := (txt_get I ha).ex
  have hn : es.size = ks.length := by rw [e, List.length_map, Array.length_toList]
  have hb' : es.size < 4096 := hb
  refine call_len_set ho hex hd hf (by omega) ⟨.int ks.length, H, I.tok _, ⟨_, by rw [hn]⟩, q⟩
theorem call_sortedTxB (B : Bs) (h : Bx X = B) (hc : X.calm = true) : CallR X (.builtin "sorted") (rSortedTx B.w) := by subst h; exact call_sortedTx hc
theorem call_lenTxB (B : Bs) (h : Bx X = B) : CallR X (.builtin "len") (rLenTx B.w) := by subst h; exact call_lenTx
theorem wayTxtB (B : Bs) (h : Bx X = B) : SetWay X.prog X.w X.K X.A (fun D => TxtO B.w D []) (rTxt B.w) := by subst h; exact wayTxt
end
section
variable {c : Cn} {δ : List SV} {Post : List SV → SV → Prop}
theorem oa_sortedTx {a : Addr} {ks : List Str} (h64 : ks.length < 64) (k : ∀ ys : List Str, ys.Perm ks → sortedS ys = true → ∀ p, Post δ (.own p (.lst (ys.map .str)))) : OPA c (rSortedTx c.B.w) δ [.own a (.txs ks)] Post := fun σ H ρ vs Q hl S q => by
  obtain ⟨v, rfl, S⟩ := S.arg1 hl
  obtain ⟨F, g, S2, h⟩ := S.top1
  obtain ⟨e, _, _, ho⟩ := h
  have e : v = .ref a := e
  subst e
  have ho : H a = some (TxtO c.B.w a ks) := ho
  refine ⟨a, ks, rfl, ho, h64, fun ys p pm hs hp => q _ _ δ _ (k ys pm hs p) (S2.newLst hp ?_)⟩
  clear pm hs
  induction ys with
  | nil => exact .nil
  | cons y ys ih => exact .cons (by simp only [DV]) ih
theorem oa_lenTx {a : Addr} {ks : List Str} (k : Post δ (.d (.int ks.length))) : OPA c (rLenTx c.B.w) δ [.own a (.txs ks)] Post := fun σ H ρ vs Q hl S q => by
  obtain ⟨v, rfl, S⟩ := S.arg1 hl
  obtain ⟨F, g, S2, h⟩ := S.top1
  obtain ⟨e, _, _, ho⟩ := h
  have e : v = .ref a := e
  subst e
  exact ⟨a, ks, rfl, ho, q _ _ δ _ k (St.flat ⟨F, g, S2⟩ (t := .int ks.length) rfl)⟩
end
end DL

namespace DL
open PySem L2

/-! ### set comprehensions, over data -/
section
variable {c : Cn} {F : Hp} {g : Addr → Option Loc} {σ : L2.St} {H : Hp} {δ : List SV} {ρ : List (V × SV)}
/-- the temporary at n, owned, changes -/
theorem StF.updTn {a : Addr} {o o' : OW} {u : HO} {n : Nat} (S : StF c F g σ H δ ρ) (hn : ρ[n]? = some (.ref a, .own a o)) (hw : OwAt c.B F (upd H a u) a o') : StF c F g σ (upd H a u) δ (ρ.set n (.ref a, .own a o')) := by
  obtain ⟨_, h1, h2, h3⟩ := S.tm n _ hn
  obtain ⟨hF, _⟩ := S.gn a _ h1
  have hA : c.A ≠ some a := fun q => by
    obtain ⟨_, _, o, ho⟩ := S.an a q
    rw [h2] at ho; cases ho
  refine ⟨S.fh.upd2 hF, S.f0, S.fn, fun b o e hb => ?_, S.len, fun j s e => (S.sl j s e).mono (Ex.refl F) (fun _ h => h) fun b hb => upd_ne fun z => (by rw [z, h1] at hb; cases hb), fun m p e => ?_, fun b l e => ?_, fun b e => ?_⟩
  · have : b ≠ a := fun q => by rw [q, h2] at e; cases e
    rw [upd_ne this]; exact S.h0 b o e hb
  · by_cases hm : n = m
    · subst hm
      rw [List.getElem?_set_self (List.getElem?_eq_some_iff.mp hn).1] at e
      cases e
      exact ⟨rfl, h1, h2, hw⟩
    · rw [List.getElem?_set_ne hm] at e
      refine (S.tm m p e).mono (Ex.refl F) (fun _ h => h) (fun b hb => upd_ne fun z => ?_)
      rw [z, h1] at hb
      injection hb with hb; injection hb with hb
      exact hm hb
  · obtain ⟨x1, x2⟩ := S.gn b l e
    refine ⟨x1, ?_⟩
    by_cases q : b = a
    · exact ⟨u, by rw [q, upd_same]⟩
    · rw [upd_ne q]; exact x2
  · obtain ⟨x1, x2, x3⟩ := S.an b e
    exact ⟨x1, by rw [upd_ne (fun q => hA (by rw [← q]; exact e))]; exact x2, x3⟩
theorem set_same {α : Type} {xs : List α} {n : Nat} {x : α} (h : xs[n]? = some x) : xs.set n x = xs := by
  apply List.ext_getElem?
  intro i
  by_cases q : n = i
  · subst q; rw [List.getElem?_set_self (List.getElem?_eq_some_iff.mp h).1, h]
  · rw [List.getElem?_set_ne q]
theorem sc_turn {gt : TG} {tt : TT} {te : TE} {vs : List Nat} {n : Nat} {Dl : Addr} {ks xs U : List Str} {J : List Str → List SV → Prop} {t : T} {x : V} (hn : ρ[n]? = some (.ref Dl, .own Dl (.txs ks))) (is : IsSet ks xs) (hu : ∀ x ∈ xs, x ∈ U) (hU : U.length + 1 < scanBound)
    (hs : GT c gt (· ∈ vs) (.d t) (wd δ vs) fun δ2 => EVT c tt δ2 fun δ3 b => if b = true then EV c te δ3 fun δ4 r => ∃ k : Str, r = .d (.str k) ∧ k ∈ U ∧ J (xs ++ [k]) (wd δ4 vs) else J xs (wd δ3 vs))
    (S : StF c F g σ H δ ρ) (hx : DV c.B F x t) (Nx : Hp → Prop) (hN : ∀ H' xs' ks' δ', J xs' δ' → IsSet ks' xs' → (∀ x ∈ xs', x ∈ U) → St c σ H' δ' (ρ.set n (.ref Dl, .own Dl (.txs ks'))) → Nx H') :
    gt x (wipe σ vs) H fun σ2 H2 => wipe σ2 vs = wipe σ vs ∧ tt σ2 H2 fun b H3 => if b = true then te σ2 H3 fun y H4 => rTxt c.B.w Dl y H4 Nx else Nx H3 := by
  refine hs x (wipe σ vs) H _ _ ⟨F, g, S.wipe vs, hx⟩ fun σ2 H2 δ2 k2 S2 o => ?_
  have e2 : wipe σ2 vs = wipe σ vs := (wipe_only o).trans (wipe_wipe σ vs)
  refine ⟨e2, k2 σ2 H2 _ _ S2 fun b H3 δ3 k3 S3 => ?_⟩
  cases b with
  | false =>
    obtain ⟨F3, g3, S3⟩ := S3
    exact hN _ xs ks _ k3 is hu ⟨F3, g3, by rw [set_same hn]; exact S3.unwipe e2⟩
  | true =>
    rw [if_pos rfl] at k3 ⊢
    refine k3 σ2 H3 _ _ S3 fun y H4 δ4 r ⟨k, er, hk, k4⟩ S4 => ?_
    subst er
    obtain ⟨F5, g5, S5, hy⟩ := S4
    have hy : y = .str k := DV.str_ (B := c.B) (F := F5) hy
    subst hy
    obtain ⟨_, h1, h2, h3⟩ := S5.tm n _ hn
    have h3 : H4 Dl = some (TxtO c.B.w Dl ks) := h3
    have hl : ks.length ≤ U.length := is.len hu
    refine ⟨ks, k, rfl, h3, by omega, fun ks' pm => hN _ (xs ++ [k]) ks' _ k4 (is.add pm) (fun z hz => ?_) ⟨F5, g5, (S5.updTn (o' := .txs ks') hn (show OwAt c.B F5 _ Dl (.txs ks') from upd_same)).unwipe e2⟩⟩
    rcases List.mem_append.mp hz with hz | hz
    · exact hu z hz
    · rw [List.mem_singleton] at hz; subst hz; exact hk
theorem sc_start {vs : List Nat} {Dl : Addr} (S : StF c F g σ H δ ρ) (hD : H Dl = none) : ∃ g', StF c F g' σ (upd H Dl (TxtO c.B.w Dl [])) (wd δ vs) (ρ ++ [(.ref Dl, .own Dl (.txs []))]) := by
  obtain ⟨g', S1, h1, h2, h3⟩ := S.newOwn (u := TxtO c.B.w Dl []) hD
  have S2 := (S1.retag (l := .tmp ρ.length) h1).push (p := (.ref Dl, .own Dl (.txs []))) ⟨rfl, if_pos rfl, h3, upd_same⟩
  exact ⟨_, S2.unwipe rfl⟩
/-- what is gone through: its temporary stands at n -/
structure DItN (c : Cn) (J : It) (n : Nat) (p : V × SV) (O : List SV → Prop) (ts : List T) : Prop where
  go : ∀ {i : Nat} {σ : L2.St} {H : Hp} {δ : List SV} {ρ : List (V × SV)}, i < ts.length → O δ → ρ[n]? = some p → St c σ H δ ρ → J.go i H
  yld : ∀ {i : Nat} {σ : L2.St} {H H' : Hp} {δ : List SV} {ρ : List (V × SV)} {x : V}, i < ts.length → O δ → ρ[n]? = some p → St c σ H δ ρ → J.yld i H x H' → ∃ t, ts[i]? = some t ∧ St1 c σ H' δ ρ x (.d t)
  stop : ∀ {σ : L2.St} {H : Hp} {δ : List SV} {ρ : List (V × SV)}, O δ → ρ[n]? = some p → St c σ H δ ρ → J.stop ts.length H
def EVJ (c : Cn) (ti : TI) (δ : List SV) (P : List SV → (List SV → Prop) → List T → Prop) : Prop :=
  ∀ σ H ρ R, St c σ H δ ρ → (∀ J H' δ' p O ts, P δ' O ts → DItN c J ρ.length p O ts → St c σ H' δ' (ρ ++ [p]) → R J H') → ti σ H R
theorem ej_L {tl : TE} {P : List SV → (List SV → Prop) → List T → Prop} (h : EV c tl δ fun δ1 r => ∃ ts, Pu r (.d (.lst ts)) ∧ P δ1 (fun _ => True) ts) : EVJ c (iList c.B.K tl) δ P := fun σ H ρ R S q =>
  h σ H ρ _ S fun v H1 δ1 r ⟨ts, p, k⟩ S1 => by
    obtain ⟨F, gg, S2⟩ := S1.put p
    have hv : DV c.B F v (.lst ts) := S2.last
    simp only [DV] at hv
    obtain ⟨a, xs, rfl, hx, hxs⟩ := hv
    have hlen := hxs.length
    have key : ∀ {σ : L2.St} {H : Hp} {δ : List SV} {ρ' : List (V × SV)}, ρ'[ρ.length]? = some (V.ref a, SV.lv xs ts) → St c σ H δ ρ' → ∃ F gg, StF c F gg σ H δ ρ' ∧ SqL c.B.K F a xs ∧ DVs c.B F xs ts := fun hp ⟨F, gg, S⟩ => by
      obtain ⟨b, e, hx, hd⟩ := S.tm _ _ hp
      cases e; exact ⟨F, gg, S, hx, hd⟩
    refine ⟨a, rfl, ⟨xs, SqL.of (S2.fh _ _ hx)⟩, q (Itl c.B.K a) H1 δ1 (.ref a, .lv xs ts) _ _ k ⟨?_, ?_, ?_⟩ ⟨F, gg, S2.drop.push ⟨a, rfl, SqL.of hx, hxs⟩⟩⟩
    · intro i σ H δ ρ' hi _ hp S
      obtain ⟨F, gg, S, h1, h2⟩ := key hp S
      rw [← hlen] at hi
      exact ⟨xs, xs[i], S.fh.sql h1, by simp [hi]⟩
    · rintro i σ H H' δ ρ' y hi _ hp S ⟨rfl, hh⟩
      obtain ⟨F, gg, S, h1, hd⟩ := key hp S
      obtain ⟨t, ht, hxt⟩ := hd.get' (hh xs (S.fh.sql h1))
      exact ⟨t, ht, F, gg, S, hxt⟩
    · intro σ H δ ρ' _ hp S
      obtain ⟨F, gg, S, h1, h2⟩ := key hp S
      exact ⟨xs, S.fh.sql h1, by rw [hlen]; exact Nat.le_refl _⟩
end
section
variable {c : Cn} {δ : List SV} {Post : List SV → SV → Prop} {ti tj : TI} {g gj : TG} {tt tu : TT} {te : TE} {vs vj : List Nat}
theorem ev_scI (U : List Str) (hU : U.length + 1 < scanBound) (h : EVI c ti δ fun δ1 O ts => ∃ I : Nat → List Str → List SV → Prop, I 0 [] (wd δ1 vs) ∧ (∀ i xs δ, I i xs δ → O δ) ∧
    (∀ i t xs δ, ts[i]? = some t → I i xs δ → GT c g (· ∈ vs) (.d t) (wd δ vs) fun δ2 => EVT c tt δ2 fun δ3 b => if b = true then EV c te δ3 fun δ4 r => ∃ k : Str, r = .d (.str k) ∧ k ∈ U ∧ I (i + 1) (xs ++ [k]) (wd δ4 vs) else I (i + 1) xs (wd δ3 vs)) ∧
    ∀ xs ks δ, I ts.length xs δ → IsSet ks xs → (∀ x ∈ xs, x ∈ U) → ∀ p, Post δ (.own p (.txs ks))) : EV c (tScG (fun D => TxtO c.B.w D []) (rTxt c.B.w) ti g tt te vs) δ Post := fun σ H ρ Q S q =>
  h σ H ρ _ S fun J H1 δ1 p O ts ⟨I, h0, hO, hs, hd⟩ DI S1 => fun Dl hD => by
    obtain ⟨F1, g1, S4⟩ := S1
    obtain ⟨g2, S5⟩ := sc_start (vs := vs) S4 hD
    refine ⟨fun i m H => m = ts.length - i ∧ i ≤ ts.length ∧ ∃ xs ks δ, IsSet ks xs ∧ (∀ x ∈ xs, x ∈ U) ∧ I i xs δ ∧ St c σ H δ ((ρ ++ [p]) ++ [(.ref Dl, .own Dl (.txs ks))]), ⟨ts.length, by simp, Nat.zero_le _, [], [], _, .nil, (fun _ h => nomatch h), h0, F1, g2, S5⟩, ?_⟩
    rintro i m H2 ⟨rfl, hi, xs, ks, δ2, is, hu, k, S6⟩
    by_cases hlt : i < ts.length
    · refine .inr ⟨DI.go hlt (hO _ _ _ k) S6, fun H' => ∃ xs ks δ, IsSet ks xs ∧ (∀ x ∈ xs, x ∈ U) ∧ I (i + 1) xs δ ∧ St c σ H' δ ((ρ ++ [p]) ++ [(.ref Dl, .own Dl (.txs ks))]), fun H' p' => ⟨ts.length - (i + 1), by omega, rfl, hlt, p'⟩, fun x H' y => ?_⟩
      obtain ⟨t, ht, F3, g3, S7, hx⟩ := DI.yld hlt (hO _ _ _ k) S6 y
      have hx : DV c.B F3 x t := hx
      have hn : ((ρ ++ [p]) ++ [(V.ref Dl, SV.own Dl (.txs ks))])[(ρ ++ [p]).length]? = some (.ref Dl, .own Dl (.txs ks)) := by rw [List.getElem?_append_right (Nat.le_refl _)]; simp
      refine sc_turn (J := I (i + 1)) hn is hu hU (hs i t xs δ2 ht k) S7 hx _ fun H' xs' ks' δ' k' is' hu' S' => ⟨xs', ks', δ', is', hu', k', ?_⟩
      rw [List.set_append_right _ _ (Nat.le_refl _), Nat.sub_self] at S'
      exact S'
    · have e : i = ts.length := by omega
      subst e
      obtain ⟨F, g, S8⟩ := S6
      have S7 : St1 c σ H2 δ2 (ρ ++ [p]) (.ref Dl) (.own Dl (.txs ks)) := St.popO ⟨F, g, S8⟩
      obtain ⟨F, g, S7, t7⟩ := S7
      exact .inl ⟨DI.stop (hO _ _ _ k) ⟨_, _, S8⟩, q _ H2 δ2 _ (hd xs ks δ2 k is hu Dl) ⟨F, g, S7.drop, t7⟩⟩
/-- two clauses -/
theorem ev_sc2 (U : List Str) (hU : U.length + 1 < scanBound) (h : EVI c ti δ fun δ1 O ts => ∃ I : Nat → List Str → List SV → Prop, I 0 [] (wd δ1 vs) ∧ (∀ i xs δ, I i xs δ → O δ) ∧
    (∀ i t xs δ, ts[i]? = some t → I i xs δ → GT c g (· ∈ vs) (.d t) (wd δ vs) fun δ2 => EVT c tt δ2 fun δ3 b => if b = true then
        EVJ c tj δ3 fun δ4 O' us => ∃ I' : Nat → List Str → List SV → Prop, I' 0 xs δ4 ∧ (∀ j xs δ, I' j xs δ → O' δ) ∧
          (∀ j t xs δ, us[j]? = some t → I' j xs δ → GT c gj (· ∈ vj) (.d t) (wd δ vj) fun δ5 => EVT c tu δ5 fun δ6 b => if b = true then EV c te δ6 fun δ7 r => ∃ k : Str, r = .d (.str k) ∧ k ∈ U ∧ I' (j + 1) (xs ++ [k]) (wd δ7 vj) else I' (j + 1) xs (wd δ6 vj)) ∧
          ∀ xs δ, I' us.length xs δ → I (i + 1) xs (wd δ vs)
      else I (i + 1) xs (wd δ3 vs)) ∧
    ∀ xs ks δ, I ts.length xs δ → IsSet ks xs → (∀ x ∈ xs, x ∈ U) → ∀ p, Post δ (.own p (.txs ks))) : EV c (tScG2 (fun D => TxtO c.B.w D []) (rTxt c.B.w) ti g tt tj gj tu te vs vj) δ Post := fun σ H ρ Q S q =>
  h σ H ρ _ S fun J H1 δ1 p O ts ⟨I, h0, hO, hs, hd⟩ DI S1 => fun Dl hD => by
    obtain ⟨F1, g1, S4⟩ := S1
    obtain ⟨g2, S5⟩ := sc_start (vs := vs) S4 hD
    refine ⟨fun i m H => m = ts.length - i ∧ i ≤ ts.length ∧ ∃ xs ks δ, IsSet ks xs ∧ (∀ x ∈ xs, x ∈ U) ∧ I i xs δ ∧ St c σ H δ ((ρ ++ [p]) ++ [(.ref Dl, .own Dl (.txs ks))]), ⟨ts.length, by simp, Nat.zero_le _, [], [], _, .nil, (fun _ h => nomatch h), h0, F1, g2, S5⟩, ?_⟩
    rintro i m H2 ⟨rfl, hi, xs, ks, δ2, is, hu, k, S6⟩
    by_cases hlt : i < ts.length
    · refine .inr ⟨DI.go hlt (hO _ _ _ k) S6, fun H' => ∃ xs ks δ, IsSet ks xs ∧ (∀ x ∈ xs, x ∈ U) ∧ I (i + 1) xs δ ∧ St c σ H' δ ((ρ ++ [p]) ++ [(.ref Dl, .own Dl (.txs ks))]), fun H' p' => ⟨ts.length - (i + 1), by omega, rfl, hlt, p'⟩, fun x H' y => ?_⟩
      obtain ⟨t, ht, F3, g3, S7, hx⟩ := DI.yld hlt (hO _ _ _ k) S6 y
      have hx : DV c.B F3 x t := hx
      refine hs i t xs δ2 ht k x (wipe σ vs) _ _ _ ⟨F3, g3, S7.wipe vs, hx⟩ fun σ2 H3 δ3 k3 S8 o => ?_
      have e2 : wipe σ2 vs = wipe σ vs := (wipe_only o).trans (wipe_wipe σ vs)
      refine ⟨e2, k3 σ2 H3 _ _ S8 fun b H4 δ4 k4 S9 => ?_⟩
      cases b with
      | false =>
        obtain ⟨F4, g4, S9⟩ := S9
        exact ⟨xs, ks, _, is, hu, k4, F4, g4, S9.unwipe e2⟩
      | true =>
        rw [if_pos rfl] at k4 ⊢
        refine k4 σ2 H4 _ _ S9 fun J' H5 δ5 p' O' us ⟨I', j0, jO, js, jd⟩ DJ S10 => ?_
        have hN : ((ρ ++ [p]) ++ [(V.ref Dl, SV.own Dl (.txs ks))]).length = (ρ ++ [p]).length + 1 := by rw [List.length_append]; rfl
        rw [hN] at DJ
        have at1 : ∀ ks : List Str, (((ρ ++ [p]) ++ [(V.ref Dl, SV.own Dl (.txs ks))]) ++ [p'])[(ρ ++ [p]).length + 1]? = some p' := fun ks => by
          rw [List.getElem?_append_right (by simp)]; simp
        have at2 : ∀ ks : List Str, (((ρ ++ [p]) ++ [(V.ref Dl, SV.own Dl (.txs ks))]) ++ [p'])[(ρ ++ [p]).length]? = some (.ref Dl, .own Dl (.txs ks)) := fun ks => by
          rw [List.append_assoc, List.getElem?_append_right (Nat.le_refl _), Nat.sub_self]; rfl
        refine ⟨fun j n H => n = us.length - j ∧ j ≤ us.length ∧ ∃ xs ks δ, IsSet ks xs ∧ (∀ x ∈ xs, x ∈ U) ∧ I' j xs δ ∧ St c σ2 H δ (((ρ ++ [p]) ++ [(.ref Dl, .own Dl (.txs ks))]) ++ [p']), ⟨us.length, by simp, Nat.zero_le _, xs, ks, _, is, hu, j0, S10⟩, ?_⟩
        rintro j n H6 ⟨rfl, hj, xs, ks, δ6, is, hu, kj, S11⟩
        by_cases hlj : j < us.length
        · refine .inr ⟨DJ.go hlj (jO _ _ _ kj) (at1 ks) S11, fun H' => ∃ xs ks δ, IsSet ks xs ∧ (∀ x ∈ xs, x ∈ U) ∧ I' (j + 1) xs δ ∧ St c σ2 H' δ (((ρ ++ [p]) ++ [(.ref Dl, .own Dl (.txs ks))]) ++ [p']), fun H' p' => ⟨us.length - (j + 1), by omega, rfl, hlj, p'⟩, fun x H' y => ?_⟩
          obtain ⟨t, ht, F7, g7, S12, hx⟩ := DJ.yld hlj (jO _ _ _ kj) (at1 ks) S11 y
          have hx : DV c.B F7 x t := hx
          refine sc_turn (J := I' (j + 1)) (at2 ks) is hu hU (js j t xs δ6 ht kj) S12 hx _ fun H' xs' ks' δ' k' is' hu' S' => ⟨xs', ks', δ', is', hu', k', ?_⟩
          have e3 : (((ρ ++ [p]) ++ [(V.ref Dl, SV.own Dl (.txs ks))]) ++ [p']).set (ρ ++ [p]).length (V.ref Dl, .own Dl (.txs ks')) = ((ρ ++ [p]) ++ [(V.ref Dl, SV.own Dl (.txs ks'))]) ++ [p'] := by
            rw [List.append_assoc (ρ ++ [p]), List.set_append_right _ _ (Nat.le_refl _), Nat.sub_self, List.append_assoc (ρ ++ [p])]; rfl
          rw [e3] at S'
          exact S'
        · have e : j = us.length := by omega
          subst e
          refine .inl ⟨DJ.stop (jO _ _ _ kj) (at1 ks) S11, ?_⟩
          obtain ⟨F8, g8, S13⟩ := S11
          exact ⟨xs, ks, _, is, hu, jd xs δ6 kj, F8, g8, S13.drop.unwipe e2⟩
    · have e : i = ts.length := by omega
      subst e
      obtain ⟨F, g, S8⟩ := S6
      have S7 : St1 c σ H2 δ2 (ρ ++ [p]) (.ref Dl) (.own Dl (.txs ks)) := St.popO ⟨F, g, S8⟩
      obtain ⟨F, g, S7, t7⟩ := S7
      exact .inl ⟨DI.stop (hO _ _ _ k) ⟨_, _, S8⟩, q _ H2 δ2 _ (hd xs ks δ2 k is hu Dl) ⟨F, g, S7.drop, t7⟩⟩
end
end DL

namespace DL
open PySem L2 PySem.Spec PyProof.Rows
section
variable {c : Cn} {δ : List SV} {Post : List SV → SV → Prop} {S : List T → (RT → Prop) → Prop} {C : Addr} {F : Hp}
theorem DV.insL {B : Bs} {v : V} {ns : List Str} {us : List T} {m : Str} (hm : ∀ n ∈ ns, (m == n) = false) (h : DV B F v (.obj C ns us)) : ∃ a dx fs, v = .ref a ∧ F a = some (.ins C dx fs) ∧ fs.lookup m = none := by
  simp only [DV] at h
  obtain ⟨a, dx, fs, e, h1, hns, hd⟩ := h
  refine ⟨a, dx, fs, e, h1, ?_⟩
  rw [← hns] at hm
  clear h1 hns hd
  induction fs with
  | nil => rfl
  | cons p fs ih =>
    obtain ⟨n, v⟩ := p
    rw [List.lookup_cons, hm n List.mem_cons_self]
    exact ih fun n hn => hm n (List.mem_cons_of_mem _ hn)
/-- o.m(..) of data: whatever is answered -/
theorem ev_methD {m : Str} {te : TE} {ta : TA} {E : XK} (h : EV c te δ fun δ1 r => ∃ ns us, r = .d (.obj C ns us) ∧ (∀ n ∈ ns, (m == n) = false) ∧ EVA c ta δ1 fun δ2 rs => ∃ ts, rs = ts.map .d ∧ S (.obj C ns us :: ts) (RTp Post δ2)) : EV c (tMeth C m (spP c.B S) [] E te ta) δ Post := fun σ H ρ Q S0 q =>
  h σ H ρ _ S0 fun x H1 δ1 r ⟨ns, us, e, hm, k⟩ ⟨F, g, S1, hv⟩ => by
    subst e
    have hv : DV c.B F x (.obj C ns us) := hv
    obtain ⟨a, dx, fs, rfl, ha, hl⟩ := hv.insL hm
    refine ⟨a, dx, fs, rfl, S1.fh _ _ ha, hl, ?_⟩
    refine k σ H1 (ρ ++ [(.ref a, .d (.obj C ns us))]) _ ⟨F, g, S1.push (p := (V.ref a, SV.d (.obj C ns us))) hv⟩ fun vs H2 δ2 rs ⟨ts, e, hS⟩ hl S2 => ?_
    subst e
    rw [List.append_assoc] at S2
    obtain ⟨F2, g2, S3, hd⟩ := St.args (vs := .ref a :: vs) (ts := .obj C ns us :: ts) (by simpa using hl) S2
    exact spP_go (vs := .ref a :: (vs ++ [])) S3 (by rw [List.append_nil]; exact hd) hS (fun _ h => h) q
end
end DL

namespace DL
open PySem PySem.Spec PyProof.Rows L2

/-! ### set(a list of texts) -/
section
variable {P : Program} {w : World} {A : Around} {E : Value → Shared → Prop} {s : Shared}
theorem txt_loop {I : Addr} {fp wr : List Addr} {G : Array GenState → Array GenState → Prop} {n : Nat} {Pv : Nat → Value → Prop} {St : Nat → Shared → Prop} {R : Result → Shared → Prop}
    (W : WalksS P w A.in1 I fp wr G n Pv St) (D : Addr) (out : D ∉ fp) (xs : List Str) (hn : n = xs.length) (hb : xs.length + 1 < scanBound) (val : ∀ i v, Pv i v → ∃ k t, xs[i]? = some k ∧ v = .str k t) :
    ∀ (k i : Nat) (s : Shared), n - i = k → i ≤ n → St i s → (∃ ks, IsSet ks (xs.take i) ∧ TxtSet w s.heap D ks) →
      (∀ s' ks, Moved (D :: wr) G s s' → IsSet ks xs → TxtSet w s'.heap D ks → R (.ok (.ret .none)) s') → codeAny (model P w) A (.builtin "set.update.loop" ⟨[.ref D, .ref I], []⟩) R s := by
  have dw : D ∉ wr := fun h => out (W.sub _ h)
  have more : ∀ b ∈ wr, b ∈ D :: wr := fun b hb => List.mem_cons_of_mem _ hb
  intro k
  induction k with
  | zero =>
    intro i s hk hi st ⟨ks, is, t⟩ hR
    have e : i = n := by omega
    subst e
    refine codeAny_builtin F.entry_set_update_loop (by
      rw [Around.under_plainId F.plain_set_update_loop _]
      show wpAny _ A.in1 (pyNext (.ref I) >>= _) _ _ s
      refine wpAny_bind (W.done s _ _ st fun s' hm => ?_)
      show wpAny _ A.in1 (ret Value.none) _ _ s'
      rw [List.take_of_length_le (by omega)] at is
      exact wpAny_pure (hR s' ks (hm.mono more) is (t.keep fun o e => hm.heap D o dw e)))
  | succ k ih =>
    intro i s hk hi st ⟨ks, is, t⟩ hR
    have lt : i < n := by omega
    refine codeAny_builtin F.entry_set_update_loop (by
      rw [Around.under_plainId F.plain_set_update_loop _]
      show wpAny _ A.in1 (pyNext (.ref I) >>= _) _ _ s
      refine wpAny_bind (W.item i s _ _ lt st fun v s' hv st' hm => ?_)
      obtain ⟨z, tk, hz, rfl⟩ := val i v hv
      have t' : TxtSet w s'.heap D ks := t.keep fun o e => hm.heap D o dw e
      show wpAny _ A.in1 (holding [Value.str z tk] (setAdd D (.str z tk)) >>= _) _ _ s'
      refine wpAny_bind (wpAny_holding ?_)
      unfold setAdd
      refine wpAny_holding (wpAny_bind ((strKind P w).pyHash (isStr_self (P := P) z tk) ?_))
      have hl : ks.length ≤ xs.length := is.len fun x hx => List.mem_of_mem_take hx
      refine txt_add_hashed (s := { s' with toks := s'.toks + 1 }) t' (by omega) fun b h' ks' sb pm t2 => ?_
      have is2 : IsSet ks' (xs.take (i + 1)) := by
        rw [List.take_add_one, hz]; exact is.add pm
      refine wpAny_pure ⟨plainId_quiet F.plain_set_update_loop _, ih (i + 1) _ (by omega) lt (W.frame _ s' _ _ st' (Nat.le_succ _) fun b hb o e => ?_) ⟨ks', is2, t2⟩ fun s'' ks'' hm2 is3 t3 => ?_⟩
      · rw [sb.2 b fun q : b = D => out (q ▸ hb)]; exact e
      · refine hR s'' ks'' (Moved.trans W.gtrans ((hm.mono more).then_heap (Nat.le_succ _) fun b o hb e => ?_) hm2) is3 t3
        rw [sb.2 b fun q : b = D => hb (q ▸ List.mem_cons_self)]; exact e)
theorem call_set_txt {l : Addr} {items : Array Value} (xs : List Str) {Q : Value → Shared → Prop} (hh : A.handled = none) (hl : s.heap.IsList l items) (hi : StrsAre items.toList xs) (hb : xs.length + 1 < scanBound)
    (h : ∀ (h' : Heap) (tk : Nat) (ks : List Str), IsSet ks xs → TxtSet w h' s.heap.objs.size ks → (∀ b o, s.heap.get? b = some o → h'.get? b = some o) → Q (.ref s.heap.objs.size) { s with heap := h', toks := tk }) : wpAny (model P w) A (call (.type "set") [.ref l]) Q E s := by
  have hsz : items.size = xs.length := by rw [← Array.length_toList]; exact hi.length
  let s0 : Shared := { s with heap := s.heap.push (emptySet w) }
  obtain ⟨c, tl, mro⟩ := F.called_set.mro
  have made := F.called_set.made
  have subs := F.called_set.sub
  refine wpAny_call (codeAny_of_tree ?_)
  show wpAny _ _ (callAny (.type "set") _) _ _ _
  refine wpAny_pure ⟨Code.quiet_builtin _ (by decide +kernel), codeAny_builtin F.entry_type_call (by
    rw [Around.under_plain (weight_type_call_type "set" [.ref l] []) rfl]
    have f1 := F.called_set.notType
    have f2 := F.called_set.canCreate
    have f3 := F.typeCall_set_1 (.ref l)
    repeat any_goals (first | assumption | wp_step)
    refine codeAny_mono (code_set_led1 (.ref l) (E := E) (Q₁ := fun obj s₁ => obj = .ref s.heap.objs.size ∧ s₁ = s0) ⟨rfl, rfl⟩) fun r s₁ hr => ?_
    cases r with
    | error e => exact hr
    | ok fl =>
      cases fl with
      | ret obj =>
        obtain ⟨rfl, rfl⟩ := hr
        have g0 : s0.heap.get? s.heap.objs.size = some (emptySet w) := Heap.get?_push_size _ rfl
        have ty : Shared.TypeIs s0 (.ref s.heap.objs.size) "set" := ⟨_, g0, rfl⟩
        have li := F.called_set.init.lookup
        have bi := F.called_set.init.bind (.ref s.heap.objs.size)
        repeat any_goals (first | assumption | wp_step)
        refine codeAny_mono (codeAny_call_builtin (R := wants (fun r s₂ => r = .none ∧ ∃ h' tk ks, s₂ = { s with heap := h', toks := tk } ∧ IsSet ks xs ∧ TxtSet w h' s.heap.objs.size ks ∧ ∀ b o, s.heap.get? b = some o → h'.get? b = some o) E) F.called_set.init.plain F.entry_set_init (check_set_init_1 ty (by
          obtain ⟨⟨cl, dc, da, sl⟩, ho, hc, nl, hd⟩ := hl
          simp only at hc hd
          subst hc; subst hd
          have ho' : s0.heap.get? l = some { cls := .type "list", dict := dc, data := .seq items nl, slots := sl } := Heap.get?_push_of_some _ ho
          have q1 := F.sub_list_set
          have q2 := F.sub_list_frozenset
          have q3 : (Value.type "list" == Value.type "dict") = false := by decide
          have isl : s0.heap.IsList l items := ⟨_, ho', rfl, nl, rfl⟩
          unfold Builtin.«set.__init__» noKeywords Builtin.Frozenset.updateFrom
          generalize hP : pyIter = PI
          wp_walk
          subst hP
          refine wpAny_pyIter_list isl (wpAny_bind (wpAny_runValue ?_))
          have lt : l < s.heap.objs.size := Heap.lt_size ho
          have sz0 : s0.heap.objs.size = s.heap.objs.size + 1 := Heap.size_push ..
          have hh3 : A.in1.in1.in1.handled = none := by simp [hh]
          have nI : l ≠ s0.heap.objs.size := by rw [sz0]; exact Nat.ne_of_lt (Nat.lt_succ_of_lt lt)
          have out : s.heap.objs.size ∉ [s0.heap.objs.size, l] := by
            intro q
            rcases List.mem_cons.mp q with q | q
            · rw [sz0] at q; exact absurd q (by simp)
            · exact absurd (List.mem_singleton.mp q) (Nat.ne_of_gt lt)
          have val : ∀ (i : Nat) (v : Value), items[i]? = some v → ∃ k t, xs[i]? = some k ∧ v = .str k t := fun i v hv => by
            obtain ⟨k, t, e1, e2⟩ := hi.item i v (by rw [Array.getElem?_toList]; exact hv)
            exact ⟨k, t, e2, e1⟩
          refine txt_loop ((Walks.list hh3 _ l nI items).toS) s.heap.objs.size out xs hsz hb val (items.size - 0) 0 _ (by omega) (Nat.zero_le _) ⟨⟨_, Heap.get?_push_size _ rfl, rfl, rfl⟩, isl.push _⟩ ⟨[], .nil, txt_empty (Heap.get?_push_of_some _ g0)⟩ fun s' ks hm is t => ?_
          obtain ⟨h1, h2, h3, h4, h5⟩ := s'
          have e2 : h2 = s.gens := hm.gens
          have e3 : h3 = s.drawn := hm.drawn
          have e5 : h5 = s.os := hm.os
          subst e2; subst e3; subst e5
          show wpAny _ _ _ _ _ _
          refine wpAny_pure ?_
          show wpAny _ _ (ret Value.none) _ _ _
          refine wpAny_pure ⟨rfl, h1, h4, ks, rfl, is, t, fun b o e => ?_⟩
          have lb : b < s.heap.objs.size := Heap.lt_size e
          refine hm.heap b o (fun q => ?_) (Heap.get?_push_of_some _ (Heap.get?_push_of_some _ e))
          rcases List.mem_cons.mp q with q | q
          · exact Nat.ne_of_lt lb q
          · have := List.mem_singleton.mp q
            rw [sz0] at this; exact Nat.ne_of_lt (Nat.lt_succ_of_lt lb) this))) fun r₂ s₂ hr₂ => ?_
        cases r₂ with
        | error e => exact hr₂
        | ok fl₂ =>
          cases fl₂ with
          | ret r =>
            obtain ⟨rfl, h', tk, ks, rfl, is, t, kk⟩ := hr₂
            repeat any_goals (first | assumption | wp_step)
            exact h _ _ _ is t kk
          | _ => exact hr₂.elim
      | _ => exact hr.elim)⟩
end
/-! ### as a reading, over data -/
def rSetL (B : Bs) : List V → Hp → VK → Prop := fun vs H Q => ∃ (p : Addr) (xs : List Str), vs = [.ref p] ∧ SqL B.K H p (xs.map V.str) ∧ xs.length + 1 < scanBound ∧ ∀ a ks, IsSet ks xs → H a = none → Q (.ref a) (upd H a (TxtO B.w a ks))
section
variable {X : Cx}
theorem call_setL (hc : X.calm = true) : CallR X (.type "set") (rSetL (Bx X)) := by
  intro pins s σ H vs us Q I r h
  obtain ⟨p, xs, rfl, hs, hb, q⟩ := h
  rw [Vals.ref1 r]
  obtain ⟨its, rv, hl, _⟩ := I.list hs
  refine call_set_txt xs (I.ok.hd hc) hl.isList (by simpa using rv.strs) hb fun h' tk ks is t kk => ?_
  exact ⟨.ref s.heap.objs.size, _, I.laid (t' := tk) kk (Nat.le_refl _) (txt_obj t), rfl, q _ ks is (I.hok.fresh (Nat.le_refl _))⟩
theorem call_setLB (B : Bs) (h : Bx X = B) (hc : X.calm = true) : CallR X (.type "set") (rSetL B) := by subst h; exact call_setL hc
end
section
variable {c : Cn} {δ : List SV} {Post : List SV → SV → Prop}
theorem oa_setL {s : SV} {xs : List Str} (l : LstV δ s (xs.map .str)) (hb : xs.length + 1 < scanBound) (k : ∀ p ks, IsSet ks xs → Post δ (.own p (.txs ks))) : OPA c (rSetL c.B) δ [s] Post := fun σ H ρ vs Q hl S q => by
  obtain ⟨v, rfl, S⟩ := S.arg1 hl
  obtain ⟨F, g, S2, h⟩ := S.top1
  obtain ⟨a, ys, rfl, ha, dv⟩ := l.at S2 h
  rw [dv_strs dv] at ha
  refine ⟨a, xs, rfl, SqL.of ha, hb, fun p ks is hp => ?_⟩
  obtain ⟨g', S', hg, _, h0⟩ := S2.newOwn (u := TxtO c.B.w p ks) hp
  exact q _ _ δ _ (k p ks is) ⟨F, g', S', rfl, hg, h0, upd_same⟩
end
end DL

namespace DL
open PySem PySem.Spec PyProof.Rows L2

/-! ### errors: made -/
def spErr (K : PySem.W.Frag) : Sp := fun vs H Q _ => ∃ (a C : Addr) (v : V), vs = [.ref a, v] ∧ OexC K C ∧ PySem.W.findIn K (.ref C) "value" = some none ∧ H a = some (exo a C none) ∧
  ∀ dx, H dx = none → dx ≠ a → Q .non (upd (upd H dx (exd dx [("value", v)])) a (exo a C (some dx)))
/-- what is told of the class of an error -/
structure ErrC (K : PySem.W.Frag) (C : Addr) : Prop where
  ox : OexC K C
  xf : XfC K C
  xc : ExcC K C
  nv : PySem.W.findIn K (.ref C) "value" = some none
/-- the error's dict stands by itself -/
structure XSt (c : Cn) (F : Hp) (g : Addr → Option Loc) (H : Hp) (d : Addr) (t : T) : Prop where
  at_ : ∃ v, H d = some (.xd [("value", v)]) ∧ DV c.B F v t
  fd : F d = none
  gd : g d = none
  hd : c.H0 d = none
/-- an error of class C with this value may leave -/
def XOk (c : Cn) (E : XK) (C : Addr) (t : T) : Prop := ∀ F g σ H δ ρ d, StF c F g σ H δ ρ → XSt c F g H d t → E (.ref C) (some d) H
section
variable {c : Cn} {δ : List SV} {Post : List SV → SV → Prop} {ta : TA} {E : XK} {R : DEnds}
theorem StF.newX {F : Hp} {g : Addr → Option Loc} {σ : L2.St} {H : Hp} {ρ : List (V × SV)} {d : Addr} {v : V} {t : T} (S : StF c F g σ H δ ρ) (hd : H d = none) (hv : DV c.B F v t) : StF c F g σ (upd H d (.xd [("value", v)])) δ ρ ∧ XSt c F g (upd H d (.xd [("value", v)])) d t := by
  have hF : F d = none := S.fh.fresh hd
  refine ⟨S.grow (Ex.new hd) (Ex.refl F) (S.fh.trans (Ex.new hd)) (fun _ _ _ => rfl), ⟨v, upd_same, hv⟩, hF, S.gnone d hd, ?_⟩
  cases z : c.H0 d with
  | none => rfl
  | some o => exact absurd hd (S.h0n d o z)
/-- raise C(value) -/
def tRaise (K : PySem.W.Frag) (C : Addr) (E : XK) (ta : TA) : TS := fun _ σ H => tMkO C (spErr K) [] ta σ H fun cls d H' => E cls d H'
theorem tmko_at {W : XK} {C : Addr} {σ : L2.St} {H : Hp} {ρ : List (V × SV)} (hC : OexC c.B.K C) (hv : PySem.W.findIn c.B.K (.ref C) "value" = some none) (h : EVA c ta δ fun δ1 rs => ∃ t, rs = [.d t] ∧ ∀ F g σ H d, StF c F g σ H δ1 ρ → XSt c F g H d t → W (.ref C) (some d) H) (S : St c σ H δ ρ) : tMkO C (spErr c.B.K) [] ta σ H W :=
  h σ H ρ _ S fun vs H1 δ1 rs ⟨t, e, k⟩ hl S1 => by
    subst e
    obtain ⟨v, rfl, S1⟩ := S1.arg1 hl
    obtain ⟨F, g, S2, hd⟩ := S1.top1
    have hd : DV c.B F v t := hd
    refine ⟨by simp, fun a ha => ⟨a, C, v, rfl, hC, hv, upd_same, fun dx h1 h2 => ⟨rfl, dx, [("value", v)], upd_same, by rw [upd_ne h2, upd_same], by rw [← h1, upd_ne h2], ?_⟩⟩⟩
    have hdx : H1 dx = none := by rw [← h1, upd_ne h2]
    have e : upd (L2.del (upd (upd (upd H1 a (exo a C none)) dx (exd dx [("value", v)])) a (exo a C (some dx))) a) dx (.xd [("value", v)]) = upd H1 dx (.xd [("value", v)]) := by
      funext b
      by_cases hb : b = dx
      · subst hb; rw [upd_same, upd_same]
      · rw [upd_ne hb, upd_ne hb]
        by_cases ha2 : b = a
        · subst ha2; rw [L2.del_same, ha]
        · rw [L2.del_ne ha2, upd_ne ha2, upd_ne hb, upd_ne ha2]
    rw [e]
    obtain ⟨S3, x⟩ := S2.newX hdx hd
    exact k F g σ _ dx S3 x
theorem es_raise {C : Addr} (hC : ErrC c.B.K C) (h : EVA c ta δ fun δ1 rs => ∃ t, rs = [.d t] ∧ XOk c E C t) : ES c (tRaise c.B.K C E ta) δ R := fun σ H ρ D S M =>
  tmko_at (ρ := ρ) hC.ox hC.nv (fun σ H ρ Q S q => h σ H ρ Q S fun vs H' δ' rs ⟨t, e, k⟩ => q vs H' δ' rs ⟨t, e, fun F g σ H d S x => k F g σ H _ _ d S x⟩) S
end
/-! ### promises of data that may end in an error -/
structure AfterX (B : Bs) (F H : Hp) (d : Addr) (t : T) (H' F' : Hp) : Prop where
  ef : Ex F F'
  fh : Ex F' H'
  fn : ∀ a o, H a = some o → F' a = F a
  eh : Ex H H'
  dn : H d = none
  at_ : ∃ v, H' d = some (.xd [("value", v)]) ∧ DV B F' v t
  fd : F' d = none
def spX (B : Bs) (S : List T → (RT → Prop) → (Addr → T → Prop) → Prop) : Sp := fun vs H Q E => ∃ F ts, Ex F H ∧ DVs B F vs ts ∧ ∃ (P : RT → Prop) (PX : Addr → T → Prop), S ts P PX ∧
  (∀ r v H' F', P r → AfterP B F H v H' r F' → Q v H') ∧ ∀ C t d H' F', PX C t → AfterX B F H d t H' F' → E (.ref C) (some d) H'
section
variable {B : Bs} {F H : Hp} {E : XK} {PX : Addr → T → Prop}
/-- the body's way out is the promise's -/
theorem xok_P (q : ∀ C t d H' F', PX C t → AfterX B F H d t H' F' → E (.ref C) (some d) H') {C : Addr} {t : T} (h : PX C t) : XOk ⟨B, F, H, none⟩ E C t := fun F' g σ H' δ ρ d S x =>
  q C t d H' F' h ⟨S.f0, S.fh, S.fn, fun a o e => S.h0 a o e (fun z => by cases z), x.hd, x.at_, x.fd⟩
end
section
variable {c : Cn} {δ : List SV} {Post : List SV → SV → Prop} {ta : TA} {E : XK} {R : DEnds}
/-- a promise that may end in an error is asked at a state -/
theorem spX_go {S : List T → (RT → Prop) → (Addr → T → Prop) → Prop} {F : Hp} {g : Addr → Option Loc} {σ : L2.St} {H : Hp} {ρ : List (V × SV)} {vs : List V} {ts : List T} {P : RT → Prop} {PX : Addr → T → Prop} {Q : VK} {E : XK} (S1 : StF c F g σ H δ ρ) (hd : DVs c.B F vs ts) (hS : S ts P PX) (k : ∀ r, P r → RTp Post δ r) (q : ∀ v H' δ' r, Post δ' r → St1 c σ H' δ' ρ v r → Q v H')
    (kx : ∀ C t F' g H' d, PX C t → StF c F' g σ H' δ ρ → XSt c F' g H' d t → E (.ref C) (some d) H') : spX c.B S vs H Q E :=
  ⟨F, ts, S1.fh, hd, P, PX, hS, fun r v H' F' hp A => by
    obtain ⟨s, k2, S3⟩ := (S1.grow A.eh A.ef A.fh A.fn).res S1.gnone S1.h0n A.res (k r hp)
    exact q v H' δ s k2 S3, fun C t d H' F' hp A => by
    refine kx C t F' g H' d hp (S1.grow A.eh A.ef A.fh A.fn) ⟨A.at_, A.fd, S1.gnone d A.dn, ?_⟩
    cases z : c.H0 d with
    | none => rfl
    | some o => exact absurd A.dn (S1.h0n d o z)⟩
/-- f(..), and an error goes on -/
theorem ev_callX {S : List T → (RT → Prop) → (Addr → T → Prop) → Prop} (h : EVA c ta δ fun δ1 rs => ∃ ts, rs = ts.map .d ∧ ∃ P PX, S ts P PX ∧ (∀ r, P r → RTp Post δ1 r) ∧ ∀ C t, PX C t → XOk c E C t) : EV c (tCall (spX c.B S) [] E ta) δ Post := fun σ H ρ Q S0 q =>
  h σ H ρ _ S0 fun vs H1 δ1 rs ⟨ts, e, P, PX, hS, k, kx⟩ hl S1 => by
    subst e
    obtain ⟨F, g, S2, hd⟩ := S1.args hl
    exact spX_go S2 (by rw [List.append_nil]; exact hd) hS k q fun C t F' g H' d hp S3 x => kx C t hp F' g σ H' δ1 ρ d S3 x
/-! ### try, at the statement -/
/-- a reading holds at a state, with the ends of the def and of the try -/
def ESr (c : Cn) (ρ : List (V × SV)) (D : Ends) (t : TS) (δ : List SV) : Prop := ∀ σ H, St c σ H δ ρ → t D σ H
/-- what an error in the body meets -/
def MeetsX (c : Cn) (ρ : List (V × SV)) (W : WX) (RX : List SV → Addr → T → Prop) : Prop := ∀ C t d σ H δ F g, RX δ C t → StF c F g σ H δ ρ → XSt c F g H d t → W (.ref C) (some d) σ H
theorem ESr.of {ρ : List (V × SV)} {D : Ends} {t : TS} (h : ES c t δ R) (M : Meets c ρ D R) : ESr c ρ D t δ := fun σ H S => h σ H ρ D S M
theorem esr_if {ρ : List (V × SV)} {D : Ends} {tt : TT} {t u : TS} (h : EVT c tt δ fun δ1 b => if b = true then ESr c ρ D t δ1 else ESr c ρ D u δ1) : ESr c ρ D (tIfS tt t u) δ := fun σ H S =>
  h σ H ρ _ S fun b H' δ' k S1 => by
    cases b with
    | true => exact k σ H' S1
    | false => exact k σ H' S1
/-- x = f(..), in a try -/
theorem esr_asgX {S : List T → (RT → Prop) → (Addr → T → Prop) → Prop} {ρ : List (V × SV)} {D : Ends} {W : WX} {RX : List SV → Addr → T → Prop} {j : Nat} (M : Meets c ρ D R) (MX : MeetsX c ρ W RX)
    (h : EVA c ta δ fun δ1 rs => ∃ ts, rs = ts.map .d ∧ ∃ P PX, S ts P PX ∧ (∀ r, P r → RTp (fun δ2 s => R.nx (δ2.set j s)) δ1 r) ∧ ∀ C t, PX C t → RX δ1 C t) : ESr c ρ D (tAsg (tCallS (spX c.B S) (WE W) ta) (gName j)) δ := fun σ H S0 =>
  h σ H ρ _ S0 fun vs H1 δ1 rs ⟨ts, e, P, PX, hS, k, kx⟩ hl S1 => by
    subst e
    obtain ⟨F, g, S2, hd⟩ := S1.args hl
    exact spX_go S2 hd hS k (fun v H' δ' r hr S3 => M.nx _ _ _ hr S3.store) fun C t F' g H' d hp S3 x => MX C t d σ H' δ1 F' g (kx C t hp) S3 x
/-- f(..) as a statement, in a try -/
theorem esr_exprX {S : List T → (RT → Prop) → (Addr → T → Prop) → Prop} {ρ : List (V × SV)} {D : Ends} {W : WX} {RX : List SV → Addr → T → Prop} (M : Meets c ρ D R) (MX : MeetsX c ρ W RX)
    (h : EVA c ta δ fun δ1 rs => ∃ ts, rs = ts.map .d ∧ ∃ P PX, S ts P PX ∧ (∀ r, P r → RTp (fun δ2 _ => R.nx δ2) δ1 r) ∧ ∀ C t, PX C t → RX δ1 C t) : ESr c ρ D (tDrop (tCallS (spX c.B S) (WE W) ta)) δ := fun σ H S0 =>
  h σ H ρ _ S0 fun vs H1 δ1 rs ⟨ts, e, P, PX, hS, k, kx⟩ hl S1 => by
    subst e
    obtain ⟨F, g, S2, hd⟩ := S1.args hl
    exact spX_go S2 hd hS k (fun v H' δ' r hr S3 => M.nx _ _ _ hr S3.st) fun C t F' g H' d hp S3 x => MX C t d σ H' δ1 F' g (kx C t hp) S3 x
/-! what a suite reads of the error that it holds: it changes nothing -/
def EVs (c : Cn) (te : TE) (δ : List SV) (d : Addr) (t : T) (Post : T → Prop) : Prop := ∀ σ H ρ F g Q, StF c F g σ H δ ρ → XSt c F g H d t → (∀ v u, Post u → DV c.B F v u → Q v H) → te σ H Q
def EVAs (c : Cn) (ta : TA) (δ : List SV) (d : Addr) (t : T) (Post : List T → Prop) : Prop := ∀ σ H ρ F g Q, StF c F g σ H δ ρ → XSt c F g H d t → (∀ vs us, Post us → DVs c.B F vs us → Q vs H) → ta σ H Q
theorem eas_nil {d : Addr} {t : T} {P : List T → Prop} (k : P []) : EVAs c tNil δ d t P := fun σ H ρ F g Q S x q => q [] [] k .nil
theorem eas_cons {te : TE} {tr : TA} {d : Addr} {t : T} {P : List T → Prop} (h : EVs c te δ d t fun u => EVAs c tr δ d t fun us => P (u :: us)) : EVAs c (tCons te tr) δ d t P := fun σ H ρ F g Q S x q =>
  h σ H ρ F g _ S x fun v u k hv => k σ H ρ F g _ S x fun vs us k2 hd => q (v :: vs) (u :: us) k2 (.cons hv hd)
/-- x = [..] of the suite -/
theorem ess_lst {ρ : List (V × SV)} {tr : TA} {j : Nat} {d : Addr} {t : T} {D : Ends} {i : Nat} {σ : L2.St} {H : Hp} {F : Hp} {g : Addr → Option Loc} {J : List SV → Prop} (hM : ∀ σ H δ, J δ → St c σ H δ ρ → D.nx σ H)
    (h : EVAs c tr δ d t fun us => us.length ≤ sizeLine ∧ ∀ p, J (δ.set j (.own p (.lst us)))) (S : StF c F g σ H δ ρ) (x : XSt c F g H d t) : tAsg (tLst tr) (gName j) D σ H :=
  h σ H ρ F g _ S x fun vs us ⟨hz, k⟩ hd => by
    refine ⟨by rw [hd.length]; exact hz, fun p hp => ?_⟩
    exact hM _ _ _ (k p) (S.newLst hp hd).store
/-- x = e of the suite -/
theorem ess_val {ρ : List (V × SV)} {te : TE} {j : Nat} {d : Addr} {t : T} {D : Ends} {σ : L2.St} {H : Hp} {F : Hp} {g : Addr → Option Loc} {J : List SV → Prop} (hM : ∀ σ H δ, J δ → St c σ H δ ρ → D.nx σ H)
    (h : EVs c te δ d t fun u => J (δ.set j (.d u))) (S : StF c F g σ H δ ρ) (x : XSt c F g H d t) : tAsg te (gName j) D σ H :=
  h σ H ρ F g _ S x fun v u k hv => hM _ _ _ k (St1.store ⟨F, g, S, hv⟩)
/-- try .. except X as n -/
theorem es_tryAs {tb : WX → TS} {ts : Addr → Value → Option Addr → TS} {cl : Value} {i : Nat} {Wout : WX} (RX : List SV → Addr → T → Prop)
    (hb : ∀ ρ D W, Meets c ρ D R → MeetsX c ρ W RX → ESr c ρ D (tb W) δ)
    (hs : ∀ δ' C t, RX δ' C t → PySem.W.exmOne c.B.K (.ref C) cl = some true ∧ i < δ'.length ∧ ∀ a d ρ D σ H F g, (∀ σ H δ, R.nx (δ.set i .no) → St c σ H δ ρ → D.nx σ H) → StF c F g σ H (δ'.set i (.ptr a)) ρ → XSt c F g H d t → ts a (.ref C) (some d) D σ H) :
    ES c (fun D σ H => tb (wAs c.B.K cl i ts Wout D) D σ H) δ R := fun σ H ρ D S M => by
  refine hb ρ D _ M (fun C t d σ' H' δ' F g hx S' x => ?_) σ H S
  obtain ⟨h1, h2, h3⟩ := hs δ' C t hx
  refine ⟨true, h1, fun _ a ha => ?_, fun z => by cases z⟩
  refine h3 a d ρ _ _ _ F g (fun σ2 H2 δ2 kk S2 => M.nx _ _ _ kk ?_) ?_ x
  · obtain ⟨F2, g2, S2⟩ := S2
    refine ⟨F2, g2, S2.fh, S2.f0, S2.fn, S2.h0, by rw [List.length_set, List.length_set]; exact S2.len, fun k s e => ?_, S2.tm, S2.gn, S2.an⟩
    by_cases q : k = i
    · subst q
      have hi : k < δ2.length := by have := (List.getElem?_eq_some_iff.mp e).1; simpa using this
      rw [List.getElem?_set_self hi] at e
      cases e; trivial
    · rw [List.getElem?_set_ne (Ne.symm q)] at e ⊢
      exact S2.sl k s e
  · refine ⟨S'.fh, S'.f0, S'.fn, S'.h0, by rw [List.length_set, List.length_set]; exact S'.len, fun k s e => ?_, S'.tm, S'.gn, S'.an⟩
    by_cases q : k = i
    · subst q
      rw [List.getElem?_set_self h2] at e
      cases e
      rw [List.getElem?_set_self (by rw [S'.len]; exact h2)]
      exact (rfl : some (V.ref a) = some (V.ref a))
    · rw [List.getElem?_set_ne (Ne.symm q)] at e ⊢
      exact S'.sl k s e
end
end DL

namespace DL
open PySem PySem.Spec PyProof.Rows L2

/-! ### in a suite: n.f and isinstance(n, ..) of the error, whatever its class -/
def tXg (K : PySem.W.Frag) (a : Addr) (cls : Value) (d : Option Addr) (f : Str) (te : TE) : TE := fun σ H Q => te σ H fun x H1 => x = .ref a ∧ ∃ (C dd : Addr) (fs : List (Str × V)) (v : V), cls = .ref C ∧ XfC K C ∧ PySem.W.findIn K (.ref C) f = some none ∧ d = some dd ∧ H1 dd = some (.xd fs) ∧ fs.lookup f = some v ∧ Q v H1
def rIsX (K : PySem.W.Frag) (a : Addr) (cls : Value) (d : Option Addr) : List V → Hp → VK → Prop := fun xs H Q => ∃ (k : V) (kv : Value) (b : Bool) (C dd : Addr) (fs : List (Str × V)), xs = [.ref a, k] ∧ (∀ u, RelV k u → u = kv) ∧ cls = .ref C ∧ ExcC K C ∧ PySem.W.kitOne K (.ref C) kv = some b ∧ d = some dd ∧ H dd = some (.xd fs) ∧ Q (.bl b) H
section
variable {X : Cx} {a : Addr} {oe : Obj} {cls : Value} {d : Option Addr} {pn : List (Addr × Obj)}
/-- the error in hand -/
theorem err_at {C dd : Addr} {fs : List (Str × V)} {pins : List (Addr × Obj)} {σ : L2.St} {H : Hp} {s : Shared} (hz : Zc cls d oe) (hf : ∃ vs, oe.data = .fields vs) (ec : cls = .ref C) (ed : d = some dd) (ea : H dd = some (.xd fs)) (I : Inv (X.suite a ((a, oe) :: pn)) pins σ H s) :
    ∃ (od : Obj) (mA : Str → Option Value), PySem.W.InstAt s.heap a oe C (some od) ∧ (∀ f, PySem.W.lookIn f od = some (mA f)) ∧ ∀ f, RelO (fs.lookup f) (mA f) := by
  subst ec; subst ed
  obtain ⟨ha, _⟩ := I.pin (a, oe) (List.mem_append_left _ List.mem_cons_self)
  obtain ⟨vs, hd⟩ := hf
  have hx : ObjOk X.prog X.w H s.heap dd (.xd fs) := I.hok dd _ ea
  obtain ⟨mA, hns, hr⟩ := hx
  obtain ⟨od, ho, hl⟩ := lookIn_ns hns
  exact ⟨od, mA, ⟨ha, hz.1, by unfold PySem.W.notCls; rw [hd] <;> rfl, by rw [hz.2]; exact ho⟩, hl, hr⟩
theorem pe_xg {e : Expr} {te : TE} {pos : Pos} {n : Str} (hz : Zc cls d oe) (hf : ∃ vs, oe.data = .fields vs) (he : PE (X.suite a ((a, oe) :: pn)) e te) (hb : attributeBase e n X.env (eval e X.env) = eval e X.env := by rfl) : PE (X.suite a ((a, oe) :: pn)) (.Attribute e n pos) (tXg X.K a cls d n te) := by
  constructor
  intro pins s σ H Q I h
  refine attr_of hb (thn (he.run pins s σ H _ I h) fun u s1 got => ?_)
  obtain ⟨x, H1, I1, rx, ex, C, dd, fs, v, ec, T, hno, ed, ea, l, q⟩ := got
  subst ex
  obtain rfl : u = Value.ref a := rx
  obtain ⟨od, mA, J, hl, hr⟩ := err_at hz hf ec ed ea I1
  obtain ⟨u, hu, ru⟩ := RelO.some_of (v := v) (o := mA n) (l ▸ hr n)
  exact HandSPX.exc_get I1.kIn J T.ga T.gg T.exC (PySem.W.findObj_own T.hdC hno rfl ((hl n).trans (congrArg some hu))) (handed_of ru) ⟨v, H1, I1.tok _, ru, q⟩
theorem call_isX (hz : Zc cls d oe) (hf : ∃ vs, oe.data = .fields vs) : CallR (X.suite a ((a, oe) :: pn)) (.builtin "isinstance") (rIsX X.K a cls d) := by
  intro pins s σ H xs us Q I r h
  obtain ⟨k, kv, b, C, dd, fs, rfl, hk, ec, T, e, ed, ea, q⟩ := h
  obtain ⟨od, mA, J, _, _⟩ := err_at hz hf ec ed ea I
  match us, r with
  | [u1, u2], .cons r1 (.cons r2 .nil) =>
    cases r1
    obtain rfl := hk _ r2
    obtain ⟨cd, hc, _⟩ := PySem.W.any_some T.hd
    have hs : (PySem.W.clsIn X.K C).isSome = true := by rw [hc]; rfl
    exact PySem.W.kia_one (PySem.W.kitx_exc hs T.hg T.hk T.hs T.ha T.hn T.ht T.hm) I.kIn J e (fun z => nomatch z) fun tk => ⟨.bl b, H, I.kept (t' := tk) fun _ _ z => z, rfl, q⟩
theorem pe_xgB {e : Expr} {te : TE} {pos : Pos} {n : Str} (B : Bs) (h : Bx X = B) (hz : Zc cls d oe) (hf : ∃ vs, oe.data = .fields vs) (he : PE (X.suite a ((a, oe) :: pn)) e te) (hb : attributeBase e n X.env (eval e X.env) = eval e X.env := by rfl) : PE (X.suite a ((a, oe) :: pn)) (.Attribute e n pos) (tXg B.K a cls d n te) := by subst h; exact pe_xg hz hf he hb
theorem call_isXB (B : Bs) (h : Bx X = B) (hz : Zc cls d oe) (hf : ∃ vs, oe.data = .fields vs) : CallR (X.suite a ((a, oe) :: pn)) (.builtin "isinstance") (rIsX B.K a cls d) := by subst h; exact call_isX hz hf
end
/-! over data -/
section
variable {c : Cn} {δ : List SV} {d : Addr} {t : T}
theorem evs_val {C a : Addr} {i : Nat} {P : T → Prop} (hC : ErrC c.B.K C) (hi : δ[i]? = some (.ptr a)) (k : P t) : EVs c (tXg c.B.K a (.ref C) (some d) "value" (tVar i)) δ d t P := fun σ H ρ F g Q S x q => by
  obtain ⟨v, hd, hv⟩ := x.at_
  exact ⟨.ref a, St.join (S.sl i _ hi), rfl, C, d, _, v, rfl, hC.xf, hC.nv, rfl, hd, by simp [List.lookup], q v t k hv⟩
theorem evs_is {C a : Addr} {i : Nat} {k : V} {kv : Value} {b : Bool} {P : T → Prop} (hC : ErrC c.B.K C) (hi : δ[i]? = some (.ptr a)) (hk : ∀ u, RelV k u → u = kv) (hb : PySem.W.kitOne c.B.K (.ref C) kv = some b) (p : P (.bl b)) : EVs c (tCB (rIsX c.B.K a (.ref C) (some d)) (tCons (tVar i) (tCons (tC k) tNil))) δ d t P := fun σ H ρ F g Q S x q => by
  obtain ⟨v, hd, hv⟩ := x.at_
  exact ⟨.ref a, St.join (S.sl i _ hi), k, kv, b, C, d, _, rfl, hk, rfl, hC.xc, hb, rfl, hd, q (.bl b) (.bl b) p (by simp only [DV])⟩
end
end DL

namespace DL
open PySem PySem.Spec PyProof.Rows L2

/-! ### f(k = v, ..): keywords alone -/
def tCallKS (sp : Sp) (gV : List V → List V → List V) (E : L2.St → XK) (tk : TA) : TE := fun σ H Q => tk σ H fun zs H1 => sp (gV [] zs) H1 Q (E σ)
section
variable {X : Cx} {CX : CXT} {k : Nat} {f : Addr} {fd : FuncData} {ps ks : List Str} {sp : Sp} {E : L2.St → XK} {x : Str} {p pos : Pos} {kws : List Keyword} {tk : TA} {g : List Value → List Value → List Value} {gV : List V → List V → List V}
theorem pe_callKS (F : FnOk X.prog X.w X.K X.mg X.base CX k f fd ps sp) (hr : L2.Room k X.A) (hg : Gl X x) (hm : X.mg x = some (.ref f)) (hk : PySem.W.keepIn X.K (.ref f) = true) (hb : KBinds X.K fd ps ks g gV) (hx : ∀ σ, PassesAt CX X σ (E σ)) (hkw : PK X kws tk)
    (hall : (backToKw pos (keywordEach kws X.env)).all (·.1.isSome) = true := by rfl) (hks : (backToKw pos (keywordEach kws X.env)).filterMap (·.1) = ks := by rfl) (hdb : (x == ("__debug__" : Str)) = false := by decide)
    (hpl : ((backTo pos (starEach [] X.env)).any (·.1) || (backToKw pos (keywordEach kws X.env)).any (·.1.isNone)) = false := by rfl) :
    PE X (.Call (.Name x p) [] kws pos) (tCallKS sp gV E tk) := by
  constructor
  intro pins s σ H Q I h
  refine wpAny_Call_Name_kw (ld_glob I hg hm (PySem.W.callWith_KW0 (h₀ := X.base) I.ok.mod.kin hk hall (thn (hkw.run pos pins s σ H _ I h) ?_) hpl) hdb)
  rintro ws s2 ⟨zs, H2, I2, rz, q2⟩
  refine ⟨I2.kIn, ?_⟩
  rw [hks]
  have r2 := hb.rel (vs := []) (us := []) .nil rz
  have hl : (g [] ws).length = ps.length := by rw [← r2.length]; exact F.len _ _ _ _ q2
  refine wpAny_call (codeAny_mono (F.run X.A X.stack s2 H2 ⟨[], ks.zip ws⟩ (g [] ws) (gV [] zs) Q (E σ) hr I2.env0 (hb.to s2 [] ws I2.kIn hl) r2 q2) ?_)
  rintro (e | _ | _ | _ | u) s' hq
  · exact hx σ pins H2 s2 e s' I2 hq
  · exact False.elim hq
  · exact False.elim hq
  · exact False.elim hq
  · exact I2.after hq
end
/-- the keywords in their order, one or two; two the other way about -/
def gOne {α : Type} : List α → List α → List α
  | [], [a] => [a]
  | _, _ => []
def gTwo {α : Type} : List α → List α → List α
  | [], [a, b] => [a, b]
  | _, _ => []
def gSwap {α : Type} : List α → List α → List α
  | [], [a, b] => [b, a]
  | _, _ => []
section
variable {K : PySem.W.Frag} {x qual : Str} {st : Stmt} {f : Addr} {fd : FuncData} {p1 p2 : Str}
theorem vals_one : ∀ {vs zs : List V} {us ws : List Value}, Vals vs us → Vals zs ws → Vals (gOne vs zs) (gOne us ws)
  | [], [z], _, _, r, rz => by cases r; cases rz with | cons r1 r => cases r; exact .cons r1 .nil
  | [], [], _, _, r, rz => by cases r; cases rz; exact .nil
  | [], _ :: _ :: _, _, _, r, rz => by cases r; cases rz with | cons _ r => cases r; exact .nil
  | _ :: _, _, _, _, r, _ => by cases r; exact .nil
theorem vals_two : ∀ {vs zs : List V} {us ws : List Value}, Vals vs us → Vals zs ws → Vals (gTwo vs zs) (gTwo us ws)
  | [], [z, y], _, _, r, rz => by cases r; cases rz with | cons r1 r => cases r with | cons r2 r => cases r; exact .cons r1 (.cons r2 .nil)
  | [], [], _, _, r, rz => by cases r; cases rz; exact .nil
  | [], [_], _, _, r, rz => by cases r; cases rz with | cons _ r => cases r; exact .nil
  | [], _ :: _ :: _ :: _, _, _, r, rz => by cases r; cases rz with | cons _ r => cases r with | cons _ r => cases r; exact .nil
  | _ :: _, _, _, _, r, _ => by cases r; exact .nil
theorem vals_swap : ∀ {vs zs : List V} {us ws : List Value}, Vals vs us → Vals zs ws → Vals (gSwap vs zs) (gSwap us ws)
  | [], [z, y], _, _, r, rz => by cases r; cases rz with | cons r1 r => cases r with | cons r2 r => cases r; exact .cons r2 (.cons r1 .nil)
  | [], [], _, _, r, rz => by cases r; cases rz; exact .nil
  | [], [_], _, _, r, rz => by cases r; cases rz with | cons _ r => cases r; exact .nil
  | [], _ :: _ :: _ :: _, _, _, r, rz => by cases r; cases rz with | cons _ r => cases r with | cons _ r => cases r; exact .nil
  | _ :: _, _, _, _, r, _ => by cases r; exact .nil
theorem kb_one (F : Fun K x qual st f fd) (h : ∀ (kV doc pm : Value) (an : Option Addr) (cdv ct : Value) (u : Value), bindArgs (PySem.W.fnOf x qual (defArgs st) (defBody st) (defScope st) .none kV doc pm an cdv ct) ⟨[], [(p1, u)]⟩ = pure [(p1, u)]) : KBinds K fd [p1] [p1] gOne gOne := by
  obtain ⟨oc, od, kV, doc, pm, an, cdv, ct, osl, rfl, lk, hcd⟩ := F.ex
  refine ⟨fun s us ws _ hl => ?_, vals_one⟩
  match us, ws, hl with
  | [], [u], _ => exact .of_eq (h kV doc pm an cdv ct u)
  | [], [], hl => cases hl
  | [], _ :: _ :: _, hl => cases hl
  | _ :: _, _, hl => cases hl
theorem kb_two (F : Fun K x qual st f fd) (h : ∀ (kV doc pm : Value) (an : Option Addr) (cdv ct : Value) (u w : Value), bindArgs (PySem.W.fnOf x qual (defArgs st) (defBody st) (defScope st) .none kV doc pm an cdv ct) ⟨[], [(p1, u), (p2, w)]⟩ = pure [(p1, u), (p2, w)]) : KBinds K fd [p1, p2] [p1, p2] gTwo gTwo := by
  obtain ⟨oc, od, kV, doc, pm, an, cdv, ct, osl, rfl, lk, hcd⟩ := F.ex
  refine ⟨fun s us ws _ hl => ?_, vals_two⟩
  match us, ws, hl with
  | [], [u, w], _ => exact .of_eq (h kV doc pm an cdv ct u w)
  | [], [], hl => cases hl
  | [], [_], hl => cases hl
  | [], _ :: _ :: _ :: _, hl => cases hl
  | _ :: _, _, hl => cases hl
theorem kb_swap (F : Fun K x qual st f fd) (h : ∀ (kV doc pm : Value) (an : Option Addr) (cdv ct : Value) (u w : Value), bindArgs (PySem.W.fnOf x qual (defArgs st) (defBody st) (defScope st) .none kV doc pm an cdv ct) ⟨[], [(p2, w), (p1, u)]⟩ = pure [(p1, u), (p2, w)]) : KBinds K fd [p1, p2] [p2, p1] gSwap gSwap := by
  obtain ⟨oc, od, kV, doc, pm, an, cdv, ct, osl, rfl, lk, hcd⟩ := F.ex
  refine ⟨fun s us ws _ hl => ?_, vals_swap⟩
  match us, ws, hl with
  | [], [w, u], _ => exact .of_eq (h kV doc pm an cdv ct u w)
  | [], [], hl => cases hl
  | [], [_], hl => cases hl
  | [], _ :: _ :: _ :: _, hl => cases hl
  | _ :: _, _, hl => cases hl
end
section
variable {c : Cn} {δ : List SV} {Post : List SV → SV → Prop} {ta : TA} {R : DEnds}
/-- what is done to the arguments is done to the trees -/
structure GV (gV : List V → List V → List V) (gT : List T → List T → List T) : Prop where
  dvs : ∀ {B : Bs} {F : Hp} {vs : List V} {ts : List T}, DVs B F vs ts → DVs B F (gV [] vs) (gT [] ts)
theorem gv_one : GV gOne gOne := ⟨fun {B F vs ts} h => by
  have hl := h.length
  match vs, ts, hl, h with
  | [], [], _, _ => exact .nil
  | [_], [_], _, h => exact h
  | _ :: _ :: _, _ :: _ :: _, _, _ => exact .nil⟩
theorem gv_two : GV gTwo gTwo := ⟨fun {B F vs ts} h => by
  have hl := h.length
  match vs, ts, hl, h with
  | [], [], _, _ => exact .nil
  | [_], [_], _, h => exact .nil
  | [_, _], [_, _], _, h => exact h
  | _ :: _ :: _ :: _, _ :: _ :: _ :: _, _, _ => exact .nil⟩
theorem gv_swap : GV gSwap gSwap := ⟨fun {B F vs ts} h => by
  have hl := h.length
  match vs, ts, hl, h with
  | [], [], _, _ => exact .nil
  | [_], [_], _, h => exact .nil
  | [_, _], [_, _], _, h =>
    obtain ⟨h1, h⟩ := h.uncons
    obtain ⟨h2, _⟩ := h.uncons
    exact .cons h2 (.cons h1 .nil)
  | _ :: _ :: _ :: _, _ :: _ :: _ :: _, _, _ => exact .nil⟩
theorem ev_callKP {S : List T → (RT → Prop) → Prop} {gV : List V → List V → List V} {gT : List T → List T → List T} {E : L2.St → XK} (G : GV gV gT) (h : EVA c ta δ fun δ1 rs => ∃ ts, rs = ts.map .d ∧ S (gT [] ts) (RTp Post δ1)) : EV c (tCallKS (spP c.B S) gV E ta) δ Post := fun σ H ρ Q S0 q =>
  h σ H ρ _ S0 fun vs H1 δ1 rs ⟨ts, e, hS⟩ hl S1 => by
    subst e
    obtain ⟨F, g, S2, hd⟩ := S1.args hl
    exact spP_go S2 (G.dvs hd) hS (fun _ h => h) q
theorem esr_asgKX {S : List T → (RT → Prop) → (Addr → T → Prop) → Prop} {gV : List V → List V → List V} {gT : List T → List T → List T} {ρ : List (V × SV)} {D : Ends} {W : WX} {RX : List SV → Addr → T → Prop} {j : Nat} (G : GV gV gT) (M : Meets c ρ D R) (MX : MeetsX c ρ W RX)
    (h : EVA c ta δ fun δ1 rs => ∃ ts, rs = ts.map .d ∧ ∃ P PX, S (gT [] ts) P PX ∧ (∀ r, P r → RTp (fun δ2 s => R.nx (δ2.set j s)) δ1 r) ∧ ∀ C t, PX C t → RX δ1 C t) : ESr c ρ D (tAsg (tCallKS (spX c.B S) gV (WE W) ta) (gName j)) δ := fun σ H S0 =>
  h σ H ρ _ S0 fun vs H1 δ1 rs ⟨ts, e, P, PX, hS, k, kx⟩ hl S1 => by
    subst e
    obtain ⟨F, g, S2, hd⟩ := S1.args hl
    exact spX_go S2 (G.dvs hd) hS k (fun v H' δ' r hr S3 => M.nx _ _ _ hr S3.store) fun C t F' g H' d hp S3 x => MX C t d σ H' δ1 F' g (kx C t hp) S3 x
end
/-! ### the class of an error, its maker -/
structure ErI (P : Program) (w : World) (K : PySem.W.Frag) (mg : Str → Option Value) (base : Heap) where
  f : Addr
  fd : FuncData
  ok : FnOk P w K mg base CX0 1 f fd ["self", "value"] (spErr K)
  bd : Binds K fd ["self", "value"] []
  ty : PySem.W.typeIn K (.ref f) = some (.type "function")
structure Er {P : Program} {w : World} {K : PySem.W.Frag} {mg : Str → Option Value} {base : Heap} (I : ErI P w K mg base) (x : Str) (C : Addr) : Prop where
  c : ErrC K C
  g : mg x = some (.ref C)
  i : PySem.W.findIn K (.ref C) "__init__" = some (some (.ref I.f))
section
variable {X : Cx} {x : Str} {C : Addr} {e : Expr} {ta : TA} {p pos pos2 : Pos} {E : XK}
theorem ps_raiseE {I : ErI X.prog X.w X.K X.mg X.base} (h : Er I x C) (hc : X.calm = true) (hr : L2.Room 2 X.A) (tk : Takes X (fun cls d _ H => E cls d H)) (hg : Gl X x) (ha : PA X [e] ta) (hdb : (x == ("__debug__" : Str)) = false := by decide)
    (he : starEach [e] X.env = (false, eval e X.env) :: starEach [] X.env := by rfl) (hpl : (backTo pos (starEach [] X.env)).any (·.1) = false := by rfl) :
    PS X (.Raise (some (.Call (.Name x p) [e] [] pos)) none pos2) (tRaise X.K C E ta) :=
  ps_raise hc tk (pmk_oex h.c.ox h.i I.ty I.ok hr I.bd .nil pass0 hg h.g ha hdb he hpl)
end
end DL

namespace DL
open PySem PySem.Spec PyProof.Rows L2

/-! ### promises with an owned first argument that may end in an error -/
structure AfterMX (B : Bs) (F H : Hp) (m d : Addr) (t : T) (H' F' : Hp) : Prop where
  ef : Ex F F'
  fh : Ex F' H'
  fn : ∀ a o, H a = some o → F' a = F a
  eh : ∀ a o, a ≠ m → H a = some o → H' a = some o
  dn : H d = none
  at_ : ∃ v, H' d = some (.xd [("value", v)]) ∧ DV B F' v t
  fd : F' d = none
def spMX (B : Bs) (S : OW → List T → (OW → RT → Prop) → (Addr → T → Prop) → Prop) : Sp := fun vs H Q E => ∃ F m ws us ts, vs = .ref m :: ws ∧ Ex F H ∧ F m = none ∧ OwAt B F H m us ∧ DVs B F ws ts ∧ ∃ (P : OW → RT → Prop) (PX : Addr → T → Prop), S us ts P PX ∧
  (∀ us' r v H' F', P us' r → AfterM B F H m v H' us' r F' → Q v H') ∧ ∀ C t d H' F', PX C t → AfterMX B F H m d t H' F' → E (.ref C) (some d) H'
theorem xok_M {B : Bs} {F H : Hp} {m : Addr} {E : XK} {PX : Addr → T → Prop} (q : ∀ C t d H' F', PX C t → AfterMX B F H m d t H' F' → E (.ref C) (some d) H') {C : Addr} {t : T} (h : PX C t) : XOk ⟨B, F, H, some m⟩ E C t := fun F' g σ H' δ ρ d S x =>
  q C t d H' F' h ⟨S.f0, S.fh, S.fn, fun a o n e => S.h0 a o e (fun z => n (by injection z with z; exact z.symm)), x.hd, x.at_, x.fd⟩
section
variable {c : Cn} {δ : List SV} {Post : List SV → SV → Prop} {ta : TA} {E : XK} {R : DEnds}
/-- C(..) at a state: made and frozen, or an error -/
theorem makeX_go {S : OW → List T → (OW → RT → Prop) → (Addr → T → Prop) → Prop} {C : Addr} {σ : L2.St} {H1 : Hp} {ρ : List (V × SV)} {vs : List V} {ts : List T} {F : Hp} {g : Addr → Option Loc} {Q : VK} {E : XK} (S2 : StF c F g σ H1 δ ρ) (hd : DVs c.B F vs ts)
    (hS : ∀ dx, ∃ P PX, S (.ins C dx [] []) ts P PX ∧ (∀ o r, P o r → ∃ ns us, o = .ins C dx ns us ∧ r = .d .non ∧ Post δ (.d (.obj C ns us))) ∧ ∀ C' t, PX C' t → ∀ F' g H' d, StF c F' g σ H' δ ρ → XSt c F' g H' d t → E (.ref C') (some d) H')
    (q : ∀ v H' δ' r, Post δ' r → St1 c σ H' δ' ρ v r → Q v H') : ∀ x dx, H1 x = none → H1 dx = none → dx ≠ x → spMX c.B S (.ref x :: vs) (upd (upd H1 dx (.own x)) x (.ins C dx [])) (fun v H2 => v = .non ∧ Q (.ref x) H2) E := by
  intro x dx hx hdx hne
  obtain ⟨P, PX, hS, k, kx⟩ := hS dx
  have ext : Ex H1 (upd (upd H1 dx (.own x)) x (.ins C dx [])) := fun b o e => by
    rw [upd_ne (ne_of_none e hx), upd_ne (ne_of_none e hdx)]; exact e
  have hF : F x = none := S2.fh.fresh hx
  refine ⟨F, x, vs, .ins C dx [] [], ts, rfl, S2.fh.trans ext, hF, ⟨[], upd_same, rfl, .nil⟩, hd, P, PX, hS, fun o r v H' F' hp A => ?_, fun C' t d H' F' hp A => ?_⟩
  · obtain ⟨ns, us, rfl, rfl, k2⟩ := k o r hp
    have hr := A.res
    refine ⟨DV.non_ (B := c.B) (F := F') hr, ?_⟩
    obtain ⟨fs, h1, h2, h3⟩ := A.lst
    have fx : F' x = none := by rw [A.fn x _ upd_same]; exact hF
    have S3 := S2.grow (H' := H') (F' := upd F' x (.ins C dx fs)) (fun a o e => A.eh a o (ne_of_none e hx) (ext a o e)) (A.ef.trans (Ex.new fx)) (A.fh.in1 h1) (fun a o e => by rw [upd_ne (ne_of_none e hx)]; exact A.fn a o (ext a o e))
    refine q _ H' δ _ k2 ⟨_, g, S3, ?_⟩
    show DV c.B _ (.ref x) (.obj C ns us)
    simp only [DV]
    exact ⟨x, dx, fs, rfl, upd_same, h2, DVs.mono (Ex.new fx) _ _ h3⟩
  · have hd1 : H1 d = none := by
      cases z : H1 d with
      | none => rfl
      | some o => have := ext d o z; rw [A.dn] at this; cases this
    refine kx C' t hp F' g H' d (S2.grow (fun a o e => A.eh a o (ne_of_none e hx) (ext a o e)) A.ef A.fh (fun a o e => A.fn a o (ext a o e))) ⟨A.at_, A.fd, S2.gnone d hd1, ?_⟩
    cases z : c.H0 d with
    | none => rfl
    | some o => exact absurd hd1 (S2.h0n d o z)
theorem ev_makeX {S : OW → List T → (OW → RT → Prop) → (Addr → T → Prop) → Prop} {C : Addr} (h : EVA c ta δ fun δ1 rs => ∃ ts, rs = ts.map .d ∧ ∀ dx, ∃ P PX, S (.ins C dx [] []) ts P PX ∧ (∀ o r, P o r → ∃ ns us, o = .ins C dx ns us ∧ r = .d .non ∧ Post δ1 (.d (.obj C ns us))) ∧ ∀ C' t, PX C' t → XOk c E C' t) : EV c (tMake C (spMX c.B S) [] E ta) δ Post := fun σ H ρ Q S0 q =>
  h σ H ρ _ S0 fun vs H1 δ1 rs ⟨ts, e, k⟩ hl S1 => by
    subst e
    obtain ⟨F, g, S2, hd⟩ := S1.args hl
    rw [List.append_nil]
    exact makeX_go S2 hd (fun dx => let ⟨P, PX, h1, h2, h3⟩ := k dx; ⟨P, PX, h1, h2, fun C' t hp F' g H' d S x => h3 C' t hp F' g σ H' _ _ d S x⟩) q
/-- the same in a try -/
def tMakeS (C : Addr) (sp : Sp) (E : L2.St → XK) (t : TA) : TE := fun σ H Q => t σ H fun vs H1 => ∀ x dx, H1 x = none → H1 dx = none → dx ≠ x → sp (.ref x :: vs) (upd (upd H1 dx (.own x)) x (.ins C dx [])) (fun v H2 => v = .non ∧ Q (.ref x) H2) (E σ)
theorem esr_makeX {S : OW → List T → (OW → RT → Prop) → (Addr → T → Prop) → Prop} {C : Addr} {ρ : List (V × SV)} {D : Ends} {W : WX} {RX : List SV → Addr → T → Prop} (M : Meets c ρ D R) (MX : MeetsX c ρ W RX)
    (h : EVA c ta δ fun δ1 rs => ∃ ts, rs = ts.map .d ∧ ∀ dx, ∃ P PX, S (.ins C dx [] []) ts P PX ∧ (∀ o r, P o r → ∃ ns us, o = .ins C dx ns us ∧ r = .d .non ∧ R.nx δ1) ∧ ∀ C' t, PX C' t → RX δ1 C' t) : ESr c ρ D (tDrop (tMakeS C (spMX c.B S) (WE W) ta)) δ := fun σ H S0 =>
  h σ H ρ _ S0 fun vs H1 δ1 rs ⟨ts, e, k⟩ hl S1 => by
    subst e
    obtain ⟨F, g, S2, hd⟩ := S1.args hl
    exact makeX_go (Post := fun δ' _ => R.nx δ') S2 hd (fun dx => let ⟨P, PX, h1, h2, h3⟩ := k dx; ⟨P, PX, h1, h2, fun C' t hp F' g H' d S x => MX C' t d σ H' _ F' g (h3 C' t hp) S x⟩) (fun v H' δ' r hr S3 => M.nx _ _ _ hr S3.st)
end
section
variable {X : Cx} {CX : CXT} {k : Nat} {f C : Addr} {fd : FuncData} {ps : List Str} {sp : Sp} {E : L2.St → XK} {x : Str} {p pos : Pos} {e : Expr} {es : List Expr} {t : TA}
theorem pe_makeS (M : Mk X.K C f) (F : FnOk X.prog X.w X.K X.mg X.base CX k f fd ps sp) (hr : L2.Room (k + 1) X.A) (hg : Gl X x) (hm : X.mg x = some (.ref C)) (hb : Binds X.K fd ps []) (hx : ∀ σ, PassesAt CX X σ (E σ)) (ha : PA X (e :: es) t)
    (hdb : (x == ("__debug__" : Str)) = false := by decide) (he : starEach (e :: es) X.env = (false, eval e X.env) :: starEach es X.env := by rfl) (hpl : (backTo pos (starEach es X.env)).any (·.1) = false := by rfl) : PE X (.Call (.Name x p) (e :: es) [] pos) (tMakeS C sp E t) := by
  constructor
  intro pins s σ H Q I h
  refine wpAny_Call_Name_kw (ld_glob I hg hm (PySem.W.callWith_K (h₀ := X.base) I.ok.mod.kin M.kp (thn (ha.run pos pins s σ H _ I h) ?_) he hpl) hdb)
  rintro us s1 ⟨vs, H1, I1, r, q⟩
  refine ⟨I1.kIn, ?_⟩
  have hq := q (s1.heap.objs.size + 1) s1.heap.objs.size (I1.hok.fresh (Nat.le_succ _)) (I1.hok.fresh (Nat.le_refl _)) (Nat.ne_of_lt (Nat.lt_succ_self _))
  have I2 := Inv.made (C := C) I1
  have r2 : Vals (V.ref (s1.heap.objs.size + 1) :: vs) (Value.ref (s1.heap.objs.size + 1) :: us) := .cons rfl r
  have hl : (Value.ref (s1.heap.objs.size + 1) :: us).length = ps.length := by
    rw [← r2.length]; exact F.len _ _ _ _ hq
  have b := hb _ (Value.ref (s1.heap.objs.size + 1) :: us) I2.kIn (by rw [List.append_nil]; exact hl)
  rw [List.append_nil] at b
  refine wpAny_call (make_map (f := f) I1.kIn M.makes M.init (beq_iff_eq.mp M.fn) (codeAny_mono (F.run _ X.stack _ _ ⟨Value.ref (s1.heap.objs.size + 1) :: us, []⟩ _ _ _ (E σ) (hr.make C us []) (I2.env0.make C us []) b r2 hq) ?_))
  rintro (er | _ | _ | _ | u) s' hq'
  · exact hx σ pins _ _ er s' I2 hq'
  · exact False.elim hq'
  · exact False.elim hq'
  · exact False.elim hq'
  · obtain ⟨v, H', I3, rv, ev, q3⟩ := I2.after hq'
    subst ev
    exact ⟨rv, ⟨V.ref (s1.heap.objs.size + 1), H', I3, rfl, q3⟩⟩
theorem pass0S {X : Cx} {σ : L2.St} : PassesAt CX0 X σ (fun _ _ _ => False) := fun _ _ _ _ _ _ h => h.elim
end
section
variable {c : Cn} {δ : List SV} {Post : List SV → SV → Prop}
theorem o2_eqS {i j : Str} (k : Post δ (.d (.bl (decide (i = j))))) : OP2 c rEq δ (.d (.str i)) (.d (.str j)) Post := fun σ H ρ x w Q S q => by
  obtain ⟨e1, e2, S2⟩ := S.strs
  subst e1; subst e2
  refine ⟨rfl, ?_⟩
  have e : decide (V.str i = V.str j) = decide (i = j) := by
    by_cases h : i = j
    · subst h; simp
    · rw [decide_eq_false h, decide_eq_false fun z => h (by injection z)]
  rw [e]
  exact q _ H δ _ k (S2.flat (t := .bl (decide (i = j))) rfl)
end
end DL

namespace DL
open PySem L2

/-! ### the data of services -/
abbrev Stp := Str × Str × Str × Int
abbrev K3 := Str × Str × Str
def kyOf (s : Stp) : K3 := (s.1, s.2.1, s.2.2.1)
def goalOf (s : Stp) : Int := s.2.2.2
abbrev Room := List Stp
abbrev Plan := List Room
def eS (p : Stp) : T := .tup [.str p.1, .str p.2.1, .str p.2.2.1, .int p.2.2.2]
def eK (k : K3) : T := .tup [.str k.1, .str k.2.1, .str k.2.2]
def eRoom (r : Room) : T := .lst (r.map eS)
def ePlan (p : Plan) : T := .lst (p.map eRoom)
def dS (p : Stp) : PyData := .tuple [.str p.1, .str p.2.1, .str p.2.2.1, .int p.2.2.2]
def dK (k : K3) : PyData := .tuple [.str k.1, .str k.2.1, .str k.2.2]
def dRoom (r : Room) : PyData := .list (r.map dS)
def dPlan (p : Plan) : PyData := .list (p.map dRoom)
theorem eS_py (p : Stp) : (eS p).py = some (dS p) := by simp [eS, dS, T.py, T.pys]
theorem eK_py (p : K3) : (eK p).py = some (dK p) := by simp [eK, dK, T.py, T.pys]
theorem eRoom_py (r : Room) : (eRoom r).py = some (dRoom r) := by simp [eRoom, dRoom, T.py, pys_map eS_py]
theorem ePlan_py (r : Plan) : (ePlan r).py = some (dPlan r) := by simp [ePlan, dPlan, T.py, pys_map eRoom_py]
theorem lstK_py (r : List K3) : (T.lst (r.map eK)).py = some (.list (r.map dK)) := by simp [T.py, pys_map eK_py]
/-! texts that may be compared -/
def okT (x : Str) : Prop := PyData.strOk x = true
def okK (k : K3) : Prop := okT k.1 ∧ okT k.2.1 ∧ okT k.2.2
def okS (s : Stp) : Prop := okK (kyOf s)
theorem all_lay {α : Type} {d : α → PyData} : ∀ {xs : List α}, (∀ x ∈ xs, (d x).canLay0 = true) → PyData.canLayAll0 (xs.map d) = true
  | [], _ => by simp [PyData.canLayAll0]
  | x :: xs, h => by
    rw [List.map_cons, PyData.canLayAll0, h x List.mem_cons_self, all_lay fun y hy => h y (List.mem_cons_of_mem _ hy)]; rfl
theorem all_depth {α : Type} {d : α → PyData} {n : Nat} : ∀ {xs : List α}, (∀ x ∈ xs, (d x).depth ≤ n) → PyData.depthAll (xs.map d) ≤ n
  | [], _ => by simp [PyData.depthAll]
  | x :: xs, h => by
    rw [List.map_cons, PyData.depthAll]
    exact Nat.max_le.mpr ⟨h x List.mem_cons_self, all_depth fun y hy => h y (List.mem_cons_of_mem _ hy)⟩
theorem dS_depth (s : Stp) : (dS s).depth = 1 := by simp [dS, PyData.depth, PyData.depthAll]
theorem dK_depth (s : K3) : (dK s).depth = 1 := by simp [dK, PyData.depth, PyData.depthAll]
theorem dS_lay {s : Stp} (h : okS s) : (dS s).canLay0 = true := by
  obtain ⟨h1, h2, h3⟩ := h
  unfold okT at h1 h2 h3
  simp only [kyOf] at h1 h2 h3
  simp [dS, PyData.canLay0, PyData.canLayAll0, h1, h2, h3]
theorem dK_lay {s : K3} (h : okK s) : (dK s).canLay0 = true := by
  obtain ⟨h1, h2, h3⟩ := h
  unfold okT at h1 h2 h3
  simp [dK, PyData.canLay0, PyData.canLayAll0, h1, h2, h3]
theorem shaped_of {d : PyData} (h : d.canLay0 = true) (hd : d.depth ≤ 64) : SeqAt.shaped d = true := by
  unfold SeqAt.shaped; rw [h, decide_eq_true hd]; rfl
theorem dK_shaped {s : K3} (h : okK s) : SeqAt.shaped (dK s) = true := shaped_of (dK_lay h) (by rw [dK_depth]; decide)
theorem dRoom_lay {r : Room} (h : ∀ s ∈ r, okS s) : (dRoom r).canLay0 = true := by
  unfold dRoom; rw [PyData.canLay0]; exact all_lay fun s hs => dS_lay (h s hs)
theorem dRoom_depth (r : Room) : (dRoom r).depth ≤ 2 := by
  unfold dRoom; rw [PyData.depth]
  have := all_depth (d := dS) (n := 1) (xs := r) fun x _ => by rw [dS_depth]; decide
  omega
theorem dRoom_shaped {r : Room} (h : ∀ s ∈ r, okS s) : SeqAt.shaped (dRoom r) = true := shaped_of (dRoom_lay h) (Nat.le_trans (dRoom_depth r) (by decide))
theorem lstK_shaped {r : List K3} (h : ∀ s ∈ r, okK s) : SeqAt.shaped (.list (r.map dK)) = true := by
  refine shaped_of ?_ ?_
  · rw [PyData.canLay0]; exact all_lay fun s hs => dK_lay (h s hs)
  · rw [PyData.depth]
    have := all_depth (d := dK) (n := 1) (xs := r) fun x _ => by rw [dK_depth]; decide
    omega
theorem beq_str (a b : Str) : (a == b) = decide (a = b) := by
  by_cases h : a = b
  · subst h; simp
  · rw [decide_eq_false h]; exact beq_eq_false_iff_ne.mpr h
theorem dK_eqv (a b : K3) : PyData.eqv (dK a) (dK b) = decide (a = b) := by
  obtain ⟨a1, a2, a3⟩ := a
  obtain ⟨b1, b2, b3⟩ := b
  simp only [dK, PyData.eqv, PyData.eqvAll, Bool.and_true, beq_str]
  by_cases h1 : a1 = b1 <;> by_cases h2 : a2 = b2 <;> by_cases h3 : a3 = b3 <;> simp [h1, h2, h3]
theorem eqvAll_map {α : Type} [DecidableEq α] {d : α → PyData} (h : ∀ a b, PyData.eqv (d a) (d b) = decide (a = b)) : ∀ xs ys : List α, PyData.eqvAll (xs.map d) (ys.map d) = decide (xs = ys)
  | [], [] => by simp [PyData.eqvAll]
  | [], y :: ys => by simp [PyData.eqvAll]
  | x :: xs, [] => by simp [PyData.eqvAll]
  | x :: xs, y :: ys => by
    rw [List.map_cons, List.map_cons, PyData.eqvAll, h, eqvAll_map h xs ys]
    by_cases h1 : x = y <;> by_cases h2 : xs = ys <;> simp [h1, h2]
theorem dS_eqv (a b : Stp) : PyData.eqv (dS a) (dS b) = decide (a = b) := by
  obtain ⟨a1, a2, a3, a4⟩ := a
  obtain ⟨b1, b2, b3, b4⟩ := b
  have e4 : (a4 == b4) = decide (a4 = b4) := by
    by_cases h : a4 = b4
    · subst h; simp
    · rw [decide_eq_false h]; exact beq_eq_false_iff_ne.mpr h
  simp only [dS, PyData.eqv, PyData.eqvAll, Bool.and_true, beq_str, e4]
  by_cases h1 : a1 = b1 <;> by_cases h2 : a2 = b2 <;> by_cases h3 : a3 = b3 <;> by_cases h4 : a4 = b4 <;> simp [h1, h2, h3, h4]
theorem dRoom_eqv (a b : Room) : PyData.eqv (dRoom a) (dRoom b) = decide (a = b) := by
  unfold dRoom; rw [PyData.eqv]; exact eqvAll_map dS_eqv a b
theorem lstK_eqv (a b : List K3) : PyData.eqv (.list (a.map dK)) (.list (b.map dK)) = decide (a = b) := by
  rw [PyData.eqv]; exact eqvAll_map dK_eqv a b
/-- the keys of steps in dicts -/
def k3e : KeyEnc K3 where
  ek := eK
  en := fun k => .tup [.text k.1, .text k.2.1, .text k.2.2]
  nk := fun k => by simp [eK, T.nk, T.nks]
  inj := fun a b h => by
    injection h with h
    injection h with h1 h
    injection h with h2 h
    injection h with h3 _
    injection h1 with h1; injection h2 with h2; injection h3 with h3
    exact Prod.ext h1 (Prod.ext h2 h3)
  depth := fun a => by simp [NestedKey.depth, NestedKey.depthAll]
  tup := fun a => ⟨_, rfl⟩
/-! names -/
def isLetter (n : Nat) : Prop := 97 ≤ n ∧ n ≤ 122
def isNameL (x : List Nat) : Prop := 1 ≤ x.length ∧ x.length ≤ 8 ∧ ∀ n ∈ x, isLetter n
def IsName (x : Str) : Prop := isNameL x.cps.toList
theorem IsName.ok {x : Str} (h : IsName x) : okT x := by
  unfold okT PyData.strOk
  rw [Array.all_eq_true_iff_forall_mem]
  intro n hn
  have := h.2.2 n (by simpa using hn)
  unfold isLetter at this
  simp; omega
end DL

namespace K
open PySem L2 DL
local macro_rules | `(tactic| walk_at "dl") => `(tactic| with_reducible first
  | refine es_if ?_ | refine es_append ?_ | refine es_sub ?_ | refine es_par3 ?_ | refine es_parD ?_ | refine es_asg ?_ | refine es_ret ?_ | refine es_retN ?_ | refine es_next ?_ | refine es_drop ?_ | refine es_break ?_ | refine es_cont ?_
  | refine et_val ?_ | refine et_B ?_ | refine et_not ?_ | refine et_and ?_ | refine et_or ?_ | refine et_yes ?_
  | refine ev_op ?_ | refine ev_un ?_ | refine ev_cb ?_ | refine ev_tup ?_ | refine ev_lst ?_ | refine ev_ifx ?_ | refine ev_andV ?_ | refine ev_orV ?_ | refine ev_notV ?_ | refine ev_sl ?_
  | refine ea_cons ?_ | refine ea_nil ?_ | refine ev_int ?_ | refine ev_str ?_ | refine ev_bl ?_ | refine ev_non ?_ | refine eo_none ?_ | refine eo_some ?_
  | refine gts_cons ?_ | refine gts_nil ?_
  | refine o2_addI ?_ | refine o2_ltI ?_ | refine o2_leI ?_ | refine o2_gtI ?_ | refine o2_geI ?_ | refine o2_ltS ?_ | refine o2_leS ?_ | refine o2_gtS ?_ | refine o2_sub ?_
  | refine oa_intI ?_ | refine oa_intB ?_ | refine oa_abs ?_ | refine oa_two ?_ | refine ulen_R ?_ | refine ulen_T ?_ | refine ulen_L LstV.d ?_
  | (refine ⟨_, Pu.d, ?_⟩) | (refine ⟨_, Pu.ptr, ?_⟩) | (refine ⟨_, Pu.fr, ?_⟩))
local macro_rules | `(tactic| walk_at "dv") => `(tactic| first
  | refine ev_var (by rfl) ?_ | refine ev_ptr (.inl (by rfl)) ?_ | refine ev_ptr (.inr (.inl (by rfl))) ?_ | refine ev_ptr (.inr (.inr (by rfl))) ?_
  | refine uix_L (LstV.o ⟨0, .inr (by rfl)⟩) (by rfl) ?_ | refine uix_L LstV.d (by rfl) ?_ | refine uix_T (by rfl) ?_
  | refine gt_tup (by rfl) ?_ | refine gt_name (by first | exact all_in | simp) ?_ | refine ⟨_, rfl, ?_⟩)
local macro_rules | `(tactic| walk_at "e") => `(tactic| repeat (first | walk_at "dl" | walk_at "dv"))
local macro_rules | `(tactic| walk_at "d") => `(tactic| repeat (first | with_reducible refine es_seq ?_ | walk_at "dl" | walk_at "dv"))
def topS (i : Nat) : Stmt := PySem.Challenge.pw_emptyfirst_k13_plain_services.main.body.getD i (.Pass ⟨0, 0, 0, 0⟩)
structure TXF (mg : Str → Option Value) : Prop where
  n_len : mg "len" = none
  n_int : mg "int" = none
  n_bool : mg "bool" = none
  n_abs : mg "abs" = none
  n_max : mg "max" = none
  n_min : mg "min" = none
  n_all : mg "all" = none
  n_range : mg "range" = none
  n_isinstance : mg "isinstance" = none
  n_enumerate : mg "enumerate" = none
  n_sorted : mg "sorted" = none
  n_list : mg "list" = none
  n_tuple : mg "tuple" = none
  n_repr : mg "repr" = none
section
variable {P : Program} {w : World} {K : PySem.W.Frag} {mg : Str → Option Value} {base : Heap}
def mint3 (a b n : Int) : List T := [.int a, .int b, .int n]
/-- the state of a mint behind at most n draws -/
def Mint (n : Nat) (us : OW) : Prop := ∃ a b m : Int, us = .lst (mint3 a b m) ∧ 0 ≤ b ∧ b < 2 ^ 62 ∧ 0 ≤ m ∧ m ≤ n
def SMint : List T → (RT → Prop) → Prop := fun ts P => ∃ (ns : List Int) (i : Nat), ns.length ≤ 63 ∧ i < 1000 ∧ ts = [.rl (ns.map T.int), .int i] ∧ ∀ us, Mint 0 us → P (.new us)
abbrev s_law_mint : Stmt := topS 27
abbrev N_law_mint : List Str := ["script", "place", "figure", "start"]
theorem sc_law_mint : FnScope N_law_mint ["script", "place"] (defScope s_law_mint) := ⟨rfl, rfl, rfl, by decide +kernel, rfl, by decide +kernel, by decide +kernel⟩

theorem ok_mint {f : Addr} {fd : FuncData} (Fn : Fun K "_law_mint" "_law_mint" s_law_mint f fd) (TX : TXF mg) : FnOk P w K mg base CX0 1 f fd ["script", "place"] (spP ⟨P, w, K⟩ SMint) := by
  refine Fn.ok sc_law_mint (fun vs H Q E h => ?_) (fun cdv A outer s H vs Q E hr h => ?_)
  · obtain ⟨F, ts, _, hd, P, ⟨_, _, _, _, rfl, _⟩, _⟩ := h
    rw [hd.length]; rfl
  · obtain ⟨F, ts, fh, hd, PP, ⟨ns, i, hn, hi, rfl, hk⟩, q⟩ := h
    have hu : _ := hr.units
    refine ⟨_, (pss_cons (ps_set (i := 2) sc_law_mint.nd rfl (Or.inl rfl) pe_int)
    (pss_cons (ps_if (pt_cmpR op_uLt (pv 1) (pe_callB (call_lenB ⟨P, w, K⟩ rfl hu) (by rfl) TX.n_len (by decide +kernel) (pa_cons (pv 0) pa_nil)) (nomark _)) (pss_one (ps_set (i := 2) sc_law_mint.nd rfl (Or.inl rfl) (pe_ix (ix_B ⟨P, w, K⟩ rfl hu) (pv 0) (pv 1) (fun _ _ => rfl)))) pss_nil)
    (pss_cons (ps_set (i := 3) sc_law_mint.nd rfl (Or.inl rfl) (pe_op op_mod (pe_callTy (call_int1') (by rfl) TX.n_int (by decide +kernel) (pa_cons (pe_op (op_addB ⟨P, w, K⟩ rfl) (pe_op op_uMul (pe_callB (call_abs') (by rfl) TX.n_abs (by decide +kernel) (pa_cons (pv 2) pa_nil)) pe_int) (pe_callTy (call_int1') (by rfl) TX.n_int (by decide +kernel) (pa_cons (pe_cmpR op_uLt (pv 2) pe_int (nomark _)) pa_nil))) pa_nil)) pe_int))
    (pss_one (ps_ret (pe_lst (pa_cons (pe_op op_uMul (pv 2) (pe_callTy (call_int1') (by rfl) TX.n_int (by decide +kernel) (pa_cons (pe_cmpR op_uGe (pv 2) (pe_op op_pow pe_int pe_int) (nomark _)) pa_nil))) (pa_cons (pe_op (op_addB ⟨P, w, K⟩ rfl) (pv 3) (pe_op op_uMul pe_int (pv 1))) (pa_cons pe_int pa_nil))))))))), ?_⟩
    refine run_P (n := 2) fh hd rfl q ?_
    dsimp only [cxOf]
    refine es_seq ?_
    walk_at "e"
    refine es_seqJ (fun δ => ∃ fig : Int, δ = [.d (.rl (ns.map .int)), .d (.int i), .d (.int fig), .no]) ?_ ?_
    · walk_at "e"
      refine ite2 (fun h => ?_) (fun h => ?_)
      · walk_at "e"
        have hi' : i < ns.length := by simpa using h
        refine uix_R (t := .int ns[i]) (atI_nat (by simp [hi'])) ?_
        walk_at "e"
        exact ⟨_, rfl⟩
      · walk_at "e"
        exact ⟨_, rfl⟩
    · rintro δ ⟨fig, rfl⟩
      walk_at "d"
      refine o2_mulI (.inr ⟨by decide, by decide⟩) ?_
      walk_at "d"
      refine o2_mod (by decide) ?_
      walk_at "d"
      refine o2_pow ⟨by decide, by decide, by decide⟩ ?_
      walk_at "d"
      refine o2_mulI (.inr ?_) ?_
      · split <;> exact ⟨by decide, by decide⟩
      walk_at "d"
      refine o2_mulI (.inl ⟨by decide, by decide⟩) ?_
      walk_at "d"
      refine ⟨[.int _, .int _, .int _], rfl, (show 3 ≤ sizeLine by decide), fun p => ?_⟩
      refine hk _ ⟨_, _, _, rfl, ?_, ?_, by decide, by decide⟩
      all_goals (generalize hb : ((if fig < 0 then -fig else fig) * 2 + if decide (fig < 0) = true then (1 : Int) else 0) = z; have z1 := Int.emod_nonneg z (show (2305843009213693951 : Int) ≠ 0 by decide); have z2 := Int.emod_lt_of_pos z (show (0 : Int) < 2305843009213693951 by decide); omega)
end
end K

namespace K
open PySem L2 DL
local macro_rules | `(tactic| walk_at "dl") => `(tactic| with_reducible first
  | refine es_if ?_ | refine es_append ?_ | refine es_sub ?_ | refine es_par3 ?_ | refine es_parD ?_ | refine es_asg ?_ | refine es_ret ?_ | refine es_retN ?_ | refine es_next ?_ | refine es_drop ?_ | refine es_break ?_ | refine es_cont ?_
  | refine et_val ?_ | refine et_B ?_ | refine et_not ?_ | refine et_and ?_ | refine et_or ?_ | refine et_yes ?_
  | refine ev_op ?_ | refine ev_un ?_ | refine ev_cb ?_ | refine ev_tup ?_ | refine ev_lst ?_ | refine ev_ifx ?_ | refine ev_andV ?_ | refine ev_orV ?_ | refine ev_notV ?_ | refine ev_sl ?_
  | refine ea_cons ?_ | refine ea_nil ?_ | refine ev_int ?_ | refine ev_str ?_ | refine ev_bl ?_ | refine ev_non ?_ | refine eo_none ?_ | refine eo_some ?_
  | refine gts_cons ?_ | refine gts_nil ?_
  | refine o2_addI ?_ | refine o2_ltI ?_ | refine o2_leI ?_ | refine o2_gtI ?_ | refine o2_geI ?_ | refine o2_ltS ?_ | refine o2_leS ?_ | refine o2_gtS ?_ | refine o2_sub ?_
  | refine oa_intI ?_ | refine oa_intB ?_ | refine oa_abs ?_ | refine oa_two ?_ | refine ulen_R ?_ | refine ulen_T ?_ | refine ulen_L LstV.d ?_
  | (refine ⟨_, Pu.d, ?_⟩) | (refine ⟨_, Pu.ptr, ?_⟩) | (refine ⟨_, Pu.fr, ?_⟩))
local macro_rules | `(tactic| walk_at "dv") => `(tactic| first
  | refine ev_var (by rfl) ?_ | refine ev_ptr (.inl (by rfl)) ?_ | refine ev_ptr (.inr (.inl (by rfl))) ?_ | refine ev_ptr (.inr (.inr (by rfl))) ?_
  | refine uix_L (LstV.o ⟨0, .inr (by rfl)⟩) (by rfl) ?_ | refine uix_L LstV.d (by rfl) ?_ | refine uix_T (by rfl) ?_
  | refine gt_tup (by rfl) ?_ | refine gt_name (by first | exact all_in | simp) ?_ | refine ⟨_, rfl, ?_⟩)
local macro_rules | `(tactic| walk_at "e") => `(tactic| repeat (first | walk_at "dl" | walk_at "dv"))
local macro_rules | `(tactic| walk_at "d") => `(tactic| repeat (first | with_reducible refine es_seq ?_ | walk_at "dl" | walk_at "dv"))
section
variable {P : Program} {w : World} {K : PySem.W.Frag} {mg : Str → Option Value} {base : Heap}
abbrev s_is_index : Stmt := topS 23
abbrev N_is_index : List Str := ["value", "count"]
theorem sc_is_index : FnScope N_is_index ["value", "count"] (defScope s_is_index) := ⟨rfl, rfl, rfl, by decide +kernel, rfl, by decide +kernel, by decide +kernel⟩

def SIndex : List T → (RT → Prop) → Prop := fun ts P => ∃ i n : Int, ts = [.int i, .int n] ∧ P (.d (.bl (decide (0 ≤ i ∧ i < n))))
theorem ok_index {f : Addr} {fd : FuncData} (Fn : Fun K "is_index" "is_index" s_is_index f fd) (TX : TXF mg) : FnOk P w K mg base CX0 1 f fd ["value", "count"] (spP ⟨P, w, K⟩ SIndex) := by
  refine Fn.ok sc_is_index (fun vs H Q E h => ?_) (fun cdv A outer s H vs Q E hr h => ?_)
  · obtain ⟨F, ts, _, hd, P, ⟨_, _, rfl, _⟩, _⟩ := h
    rw [hd.length]; rfl
  · obtain ⟨F, ts, fh, hd, PP, ⟨i, n, rfl, hk⟩, q⟩ := h
    have hu := hr.units
    refine ⟨_, (pss_one (ps_ret (pe_and (pe_callB (call_isiB ⟨P, w, K⟩ rfl) (by rfl) TX.n_isinstance (by decide +kernel) (pa_cons (pv 0) (pa_cons (pe_bltn (v := .ty "int") (by rfl) TX.n_int (by decide +kernel) rfl) pa_nil))) (pe_and (pe_not (pe_callB (call_isiB ⟨P, w, K⟩ rfl) (by rfl) TX.n_isinstance (by decide +kernel) (pa_cons (pv 0) (pa_cons (pe_bltn (v := .ty "bool") (by rfl) TX.n_bool (by decide +kernel) rfl) pa_nil)))) (pe_one (pe_chain op_uLe op_uLt pe_int (pv 0) (pv 1))))))), ?_⟩
    refine run_P (n := 0) fh hd rfl q ?_
    dsimp only [cxOf]
    walk_at "d"
    refine ev_c (t := .raw (.ty "int")) rfl ?_
    walk_at "d"
    refine oa_isi (tv := .type "int") (b := true) (.ty _) (fun F H v _ h => ?_) (by rfl) ?_
    · obtain rfl := h.int_
      exact .base (.int _)
    walk_at "d"
    refine ite2 (fun _ => ?_) (fun h => nomatch h)
    walk_at "d"
    refine ev_c (t := .raw (.ty "bool")) rfl ?_
    walk_at "d"
    refine oa_isi (tv := .type "int") (b := false) (.ty _) (fun F H v _ h => ?_) (by rfl) ?_
    · obtain rfl := h.int_
      exact .base (.int _)
    walk_at "d"
    refine ite2 (fun _ => ?_) (fun h => nomatch h)
    refine ev_chainP ?_
    walk_at "d"
    refine ⟨_, fun _ k => o2_leI k, ite2 (fun h1 => ?_) (fun h1 => ?_)⟩
    · walk_at "d"
      have e : decide (i < n) = decide (0 ≤ i ∧ i < n) := by
        have : 0 ≤ i := by simpa using h1
        simp [this]
      show PP (.d (.bl (decide (i < n))))
      rw [e]; exact hk
    · have e : false = decide (0 ≤ i ∧ i < n) := by
        have : ¬ 0 ≤ i := by simpa using h1
        simp [this]
      show PP (.d (.bl false))
      rw [e]; exact hk
abbrev s_is_name : Stmt := topS 14
abbrev N_is_name : List Str := ["text", "letter"]
theorem sc_is_name : FnScope N_is_name ["text"] (defScope s_is_name) := ⟨rfl, rfl, rfl, by decide +kernel, rfl, by decide +kernel, by decide +kernel⟩

def isLet (n : Nat) : Bool := decide (97 ≤ n) && decide (n ≤ 122)
theorem lt1 (a b : Nat) : decide ([a] < [b]) = decide (a < b) := by simp [List.cons_lt_cons_iff]
theorem let_yes {n : Nat} (h : (!decide ((⟨#[n]⟩ : Str).cps.toList < (Str.ofString "a").cps.toList)) = true) : (!decide ((Str.ofString "z").cps.toList < (⟨#[n]⟩ : Str).cps.toList)) = isLet n := by
  rw [show (Str.ofString "a").cps.toList = [97] by rfl, show (⟨#[n]⟩ : Str).cps.toList = [n] by rfl, lt1] at h
  rw [show (Str.ofString "z").cps.toList = [122] by rfl, show (⟨#[n]⟩ : Str).cps.toList = [n] by rfl, lt1]
  unfold isLet
  simp at h
  simp [h]
  by_cases q : n ≤ 122 <;> simp [q] <;> omega
theorem let_no {n : Nat} (h : ¬ (!decide ((⟨#[n]⟩ : Str).cps.toList < (Str.ofString "a").cps.toList)) = true) : false = isLet n := by
  rw [show (Str.ofString "a").cps.toList = [97] by rfl, show (⟨#[n]⟩ : Str).cps.toList = [n] by rfl, lt1] at h
  unfold isLet
  simp at h
  simp; omega
def SName : List T → (RT → Prop) → Prop := fun ts P => ∃ x : Str, x.length ≤ sizeLine ∧ ts = [.str x] ∧ ∀ b : Bool, (b = true ↔ IsName x) → P (.d (.bl b))
theorem ok_name {f : Addr} {fd : FuncData} (Fn : Fun K "is_name" "is_name" s_is_name f fd) (TX : TXF mg) {uL : Value} (G_LONGEST_NAME : mg "LONGEST_NAME" = some uL ∧ RelV (.int 8) uL) : FnOk P w K mg base CX0 1 f fd ["text"] (spP ⟨P, w, K⟩ SName) := by
  refine Fn.ok sc_is_name (fun vs H Q E h => ?_) (fun cdv A outer s H vs Q E hr h => ?_)
  · obtain ⟨F, ts, _, hd, P, ⟨_, _, rfl, _⟩, _⟩ := h
    rw [hd.length]; rfl
  · obtain ⟨F, ts, fh, hd, PP, ⟨x, hz, rfl, hk⟩, q⟩ := h
    have hu := hr.units
    refine ⟨_, (pss_one (ps_ret (pe_and (pe_chain op_uLe op_uLe pe_int (pe_callB (call_lenB ⟨P, w, K⟩ rfl hu) (by rfl) TX.n_len (by decide +kernel) (pa_cons (pv 0) pa_nil)) (pe_glob (by rfl) G_LONGEST_NAME.1 G_LONGEST_NAME.2)) (pe_one (pe_callB (call_allB ⟨P, w, K⟩ rfl rfl) (by rfl) TX.n_all (by decide +kernel) (pa_cons (pe_lc (own := [("letter", 1)]) (by rfl) sc_is_name.nd (pi_str (pv 0)) (blkOk_by (N := N_is_name) (sc := defScope s_is_name) (by decide +kernel)) (fun _ _ _ _ _ => (pg_name (i := 1) sc_is_name.nd rfl (Or.inl rfl))) (fun _ _ _ _ _ => pts_nil) (fun _ _ _ _ _ => (pe_chain op_uLe op_uLe pe_str (pv 1) pe_str))) pa_nil)))))), ?_⟩
    refine run_P (n := 1) fh hd rfl q ?_
    dsimp only [cxOf]
    have hlen : x.length = x.cps.toList.length := by simp [Str.length]
    walk_at "d"
    refine ev_chainP ?_
    walk_at "d"
    refine ulen_S hz ?_
    walk_at "d"
    refine ⟨_, fun _ k => o2_leI k, ite2 (fun h1 => ?_) (fun h1 => ?_)⟩
    · walk_at "d"
      refine ite2 (fun h2 => ?_) (fun h2 => ?_)
      · walk_at "d"
        refine ev_lcI (ei_S ?_)
        walk_at "d"
        refine ⟨by rw [List.length_map, ← hlen]; exact hz, fun i acc δ => acc = ((x.cps.toList.take i).map isLet).map T.bl ∧ δ = [.d (.str x), .no], ⟨by simp, rfl⟩, fun _ _ _ _ => trivial, ?_, ?_⟩
        · rintro i t acc δ ht _ ⟨rfl, rfl⟩
          rw [List.getElem?_map] at ht
          obtain ⟨n, hn, rfl⟩ := Option.map_eq_some_iff.mp ht
          walk_at "d"
          refine ite2 (fun _ => ?_) (fun h => nomatch h)
          refine ev_chainP ?_
          walk_at "d"
          have key : ∀ b : Bool, b = isLet n → (((x.cps.toList.take i).map isLet).map T.bl) ++ [T.bl b] = ((x.cps.toList.take (i + 1)).map isLet).map T.bl := fun b e => by
            rw [e, List.take_add_one, hn]; simp
          refine ⟨_, fun _ k => o2_leS k, ite2 (fun h3 => ?_) (fun h3 => ?_)⟩
          · walk_at "d"
            refine ⟨key _ ?_, rfl⟩
            exact let_yes h3
          · refine ⟨_, Pu.d, key _ ?_, rfl⟩
            exact let_no h3
        · rintro acc δ _ ⟨rfl, rfl⟩ p
          walk_at "d"
          refine oa_all LstV.d ?_
          refine hk _ ?_
          have h1 : 1 ≤ (x.length : Int) := by simpa using h1
          have h2 : (x.length : Int) ≤ 8 := by simpa using h2
          rw [List.all_map, List.length_map, List.take_length, List.all_eq_true]
          refine ⟨fun h => ⟨by omega, by omega, fun n hn => ?_⟩, fun h n hn => ?_⟩
          · have := h n hn
            simpa [isLet, isLetter] using this
          · have := h.2.2 n hn
            simpa [isLet, isLetter] using this
      · refine hk false ⟨fun h => absurd h (by decide), fun h => ?_⟩
        have h2 : ¬ (x.length : Int) ≤ 8 := by simpa using h2
        have := h.2.1
        omega
    · refine ⟨false, rfl, ite2 (fun h => nomatch h) (fun _ => ?_)⟩
      refine hk false ⟨fun h => absurd h (by decide), fun h => ?_⟩
      have h1 : ¬ 1 ≤ (x.length : Int) := by simpa using h1
      have := h.1
      omega
abbrev s_check_step : Stmt := topS 22
abbrev N_check_step : List Str := ["step", "count", "sign", "line", "word", "room", "name"]
theorem sc_check_step : FnScope N_check_step ["step", "count"] (defScope s_check_step) := ⟨rfl, rfl, rfl, by decide +kernel, rfl, by decide +kernel, by decide +kernel⟩

/-- a step that may stand in a service of n rooms -/
def GoodStep (n : Int) (s : Stp) : Prop := (s.1 = "!" ∨ s.1 = "?") ∧ IsName s.2.1 ∧ IsName s.2.2.1 ∧ 0 ≤ s.2.2.2 ∧ s.2.2.2 < n
def SCheckStep : List T → (RT → Prop) → Prop := fun ts P => ∃ (s : Stp) (n : Int), GoodStep n s ∧ ts = [eS s, .int n] ∧ P (.d .non)
theorem ok_check_step {f tS : Addr} {fd : FuncData} (Fn : Fun K "check_step" "check_step" s_check_step f fd) (TX : TXF mg) (C_is_index : Cal P w K mg base CX0 "is_index" 1 ["value", "count"] (spP ⟨P, w, K⟩ SIndex)) (C_is_name : Cal P w K mg base CX0 "is_name" 1 ["text"] (spP ⟨P, w, K⟩ SName))
    (G_SIGNS : mg "SIGNS" = some (.ref tS) ∧ RelV (.ref tS) (.ref tS)) (hS : ∀ F, DV ⟨P, w, K⟩ F (.ref tS) (.tup [.str "!", .str "?"])) : FnOk P w K mg base CX0 2 f fd ["step", "count"] (spP ⟨P, w, K⟩ SCheckStep) := by
  refine Fn.ok sc_check_step (fun vs H Q E h => ?_) (fun cdv A outer s H vs Q E hr h => ?_)
  · obtain ⟨F, ts, _, hd, P, ⟨_, _, _, rfl, _⟩, _⟩ := h
    rw [hd.length]; rfl
  · obtain ⟨F, ts, fh, hd, PP, ⟨st, n, hg, rfl, hk⟩, q⟩ := h
    have hu := hr.units
    refine ⟨_, (pss_cons (ps_asg (pv 0) (pg_tupB ⟨P, w, K⟩ rfl 4 rfl (pgs_cons (pg_name (i := 2) sc_check_step.nd rfl (Or.inl rfl)) (pgs_cons (pg_name (i := 3) sc_check_step.nd rfl (Or.inl rfl)) (pgs_cons (pg_name (i := 4) sc_check_step.nd rfl (Or.inl rfl)) (pgs_cons (pg_name (i := 5) sc_check_step.nd rfl (Or.inl rfl)) pgs_nil))))))
    (pss_cons (ps_if (PW.pt (pw_or (pt_cmpR (op_notInB ⟨P, w, K⟩ rfl hu) (pv 2) (pe_glob (by rfl) G_SIGNS.1 G_SIGNS.2) (by with_unfolding_all rfl)) (pw_or1 (pt_not (pt_val (pe_call C_is_index.ok (hr.mono (by decide)) (by rfl) C_is_index.mg C_is_index.kp C_is_index.bd .nil pass0 (pa_cons (pv 5) (pa_cons (pv 1) pa_nil)))))))) (pss_one DL.ps_never) pss_nil)
    (pss_one (ps_for PassesOwn.never rfl (pi_tupB ⟨P, w, K⟩ rfl (pe_tup (pa_cons (pv 3) (pa_cons (pv 4) pa_nil)))) (pg_name (i := 6) sc_check_step.nd rfl (Or.inl rfl)) (pss_one (ps_if (pt_not (pt_val (pe_call C_is_name.ok (hr.mono (by decide)) (by rfl) C_is_name.mg C_is_name.kp C_is_name.bd .nil pass0 (pa_cons (pv 6) pa_nil)))) (pss_one DL.ps_never) pss_nil)))))), ?_⟩
    refine run_P (n := 5) fh hd rfl q ?_
    dsimp only [cxOf]
    obtain ⟨s1, s2, s3, s4⟩ := st
    obtain ⟨g1, g2, g3, g4, g5⟩ := hg
    unfold eS
    dsimp only at g1 g2 g3 g4 g5 ⊢
    walk_at "d"
    refine ev_k hS ?_
    walk_at "d"
    have hsg : s1 ∈ (["!", "?"] : List Str) := by rcases g1 with h | h <;> subst h <;> decide
    refine uni_ST (zs := ["!", "?"]) ?_
    rw [decide_eq_true hsg]
    refine ⟨_, rfl, ite2 (fun h => nomatch h) (fun _ => ?_)⟩
    walk_at "d"
    refine ev_callPn ?_
    walk_at "d"
    refine ⟨[.int s4, .int n], rfl, s4, n, rfl, ?_⟩
    rw [decide_eq_true (show 0 ≤ s4 ∧ s4 < n from ⟨g4, g5⟩)]
    refine ⟨_, rfl, ite2 (fun h => nomatch h) (fun _ => ?_)⟩
    walk_at "d"
    refine es_forI (ei_T ?_)
    walk_at "d"
    refine ⟨[.str s2, .str s3], rfl, (show 2 ≤ sizeLine by decide), [.str s2, .str s3], rfl, fun i δ => ∃ x, δ = [.d (.tup [.str s1, .str s2, .str s3, .int s4]), .d (.int n), .d (.str s1), .d (.str s2), .d (.str s3), .d (.int s4), x], ⟨_, rfl⟩, fun _ _ _ => trivial, ?_, ?_⟩
    · rintro i t δ ht ⟨x, rfl⟩
      have ht : ∃ y, t = .str y ∧ IsName y := by
        match i, ht with
        | 0, ht => cases ht; exact ⟨_, rfl, g2⟩
        | 1, ht => cases ht; exact ⟨_, rfl, g3⟩
      obtain ⟨y, rfl, hy⟩ := ht
      walk_at "d"
      refine ev_callPn ?_
      walk_at "d"
      refine ⟨[.str y], rfl, y, ?_, rfl, fun b hb => ?_⟩
      · have := hy.2.1
        have e : y.length = y.cps.toList.length := by simp [Str.length]
        rw [e]; exact Nat.le_trans this (by decide)
      · rw [hb.mpr hy]
        refine ⟨_, rfl, ite2 (fun h => nomatch h) (fun _ => ?_)⟩
        walk_at "d"
        exact ⟨_, rfl⟩
    · rintro δ ⟨x, rfl⟩
      exact hk
end
end K

namespace K
open PySem L2 DL
local macro_rules | `(tactic| walk_at "dl") => `(tactic| with_reducible first
  | refine es_if ?_ | refine es_append ?_ | refine es_sub ?_ | refine es_par3 ?_ | refine es_parD ?_ | refine es_asg ?_ | refine es_ret ?_ | refine es_retN ?_ | refine es_next ?_ | refine es_drop ?_ | refine es_break ?_ | refine es_cont ?_
  | refine et_val ?_ | refine et_B ?_ | refine et_not ?_ | refine et_and ?_ | refine et_or ?_ | refine et_yes ?_
  | refine ev_op ?_ | refine ev_un ?_ | refine ev_cb ?_ | refine ev_tup ?_ | refine ev_lst ?_ | refine ev_ifx ?_ | refine ev_andV ?_ | refine ev_orV ?_ | refine ev_notV ?_ | refine ev_sl ?_
  | refine ea_cons ?_ | refine ea_nil ?_ | refine ev_int ?_ | refine ev_str ?_ | refine ev_bl ?_ | refine ev_non ?_ | refine eo_none ?_ | refine eo_some ?_
  | refine gts_cons ?_ | refine gts_nil ?_
  | refine o2_addI ?_ | refine o2_ltI ?_ | refine o2_leI ?_ | refine o2_gtI ?_ | refine o2_geI ?_ | refine o2_ltS ?_ | refine o2_leS ?_ | refine o2_gtS ?_ | refine o2_sub ?_
  | refine oa_intI ?_ | refine oa_intB ?_ | refine oa_abs ?_ | refine oa_two ?_ | refine ulen_R ?_ | refine ulen_T ?_ | refine ulen_L LstV.d ?_
  | (refine ⟨_, Pu.d, ?_⟩) | (refine ⟨_, Pu.ptr, ?_⟩) | (refine ⟨_, Pu.fr, ?_⟩))
local macro_rules | `(tactic| walk_at "dv") => `(tactic| first
  | refine ev_var (by rfl) ?_ | refine ev_ptr (.inl (by rfl)) ?_ | refine ev_ptr (.inr (.inl (by rfl))) ?_ | refine ev_ptr (.inr (.inr (by rfl))) ?_
  | refine uix_L (LstV.o ⟨0, .inr (by rfl)⟩) (by rfl) ?_ | refine uix_L LstV.d (by rfl) ?_ | refine uix_T (by rfl) ?_
  | refine gt_tup (by rfl) ?_ | refine gt_name (by first | exact all_in | simp) ?_ | refine ⟨_, rfl, ?_⟩)
local macro_rules | `(tactic| walk_at "e") => `(tactic| repeat (first | walk_at "dl" | walk_at "dv"))
local macro_rules | `(tactic| walk_at "d") => `(tactic| repeat (first | with_reducible refine es_seq ?_ | walk_at "dl" | walk_at "dv"))
section
variable {P : Program} {w : World} {K : PySem.W.Frag} {mg : Str → Option Value} {base : Heap}
/-- the ways out of a room, as a dict -/
def ways (r : Room) : List (K3 × Int) := r.foldl (fun m s => putM m (kyOf s) (goalOf s)) []
theorem putM_len {α β : Type} [DecidableEq α] (m : List (α × β)) (a : α) (b : β) : (putM m a b).length ≤ m.length + 1 := by
  unfold putM; split
  · rw [List.length_map]; omega
  · simp
theorem fold_len (r : Room) : ∀ m : List (K3 × Int), (r.foldl (fun m s => putM m (kyOf s) (goalOf s)) m).length ≤ m.length + r.length := by
  induction r with
  | nil => intro m; simp
  | cons s r ih =>
    intro m
    rw [List.foldl_cons, List.length_cons]
    have := ih (putM m (kyOf s) (goalOf s))
    have := putM_len m (kyOf s) (goalOf s)
    omega
theorem ways_len (r : Room) : (ways r).length ≤ r.length := by
  have := fold_len r []
  unfold ways; simpa using this
theorem ways_take {r : Room} {i : Nat} {s : Stp} (h : r[i]? = some s) : ways (r.take (i + 1)) = putM (ways (r.take i)) (kyOf s) (goalOf s) := by
  unfold ways; rw [List.take_add_one, h]; simp
abbrev s_next_rooms : Stmt := topS 16
abbrev N_next_rooms : List Str := ["room", "step"]
theorem sc_next_rooms : FnScope N_next_rooms ["room"] (defScope s_next_rooms) := ⟨rfl, rfl, rfl, by decide +kernel, rfl, by decide +kernel, by decide +kernel⟩

def SNext : List T → (RT → Prop) → Prop := fun ts P => ∃ r : Room, r.length < sizeLine ∧ ts = [eRoom r] ∧ P (.new (.N k3e T.int (ways r)))
theorem ok_next_rooms {f : Addr} {fd : FuncData} (Fn : Fun K "next_rooms" "next_rooms" s_next_rooms f fd) (TX : TXF mg) : FnOk P w K mg base CX0 1 f fd ["room"] (spP ⟨P, w, K⟩ SNext) := by
  refine Fn.ok sc_next_rooms (fun vs H Q E h => ?_) (fun cdv A outer s H vs Q E hr h => ?_)
  · obtain ⟨F, ts, _, hd, P, ⟨_, _, rfl, _⟩, _⟩ := h
    rw [hd.length]; rfl
  · obtain ⟨F, ts, fh, hd, PP, ⟨r, hz, rfl, hk⟩, q⟩ := h
    have hu := hr.units
    refine ⟨_, (pss_one (ps_ret (dcg (own := [("step", 1)]) (wayN hu) (by rfl) sc_next_rooms.nd (pi_listB ⟨P, w, K⟩ rfl (pv 0)) (blkOk_by (N := N_next_rooms) (sc := defScope s_next_rooms) (by decide +kernel)) (fun _ _ _ _ _ => (pg_name (i := 1) sc_next_rooms.nd rfl (Or.inl rfl))) (fun _ _ _ _ _ => pts_nil) (fun _ _ _ _ _ => (pe_slice (sl_B ⟨P, w, K⟩ rfl) (pv 1) po_none (po_some pe_int))) (fun _ _ _ _ _ => (pe_ix (ix_B ⟨P, w, K⟩ rfl hu) (pv 1) pe_int (fun _ _ => rfl)))))), ?_⟩
    refine run_P (n := 1) fh hd rfl q ?_
    dsimp only [cxOf]
    walk_at "d"
    refine ev_dcL k3e T.int ?_
    walk_at "d"
    refine ⟨by rw [List.length_map]; omega, fun i m δ => m = ways (r.take i) ∧ δ = [.d (eRoom r), .no], ⟨rfl, rfl⟩, ?_, ?_⟩
    · rintro i t m δ ht ⟨rfl, rfl⟩
      rw [List.getElem?_map] at ht
      obtain ⟨st, hst, rfl⟩ := Option.map_eq_some_iff.mp ht
      walk_at "d"
      refine ite2 (fun _ => ?_) (fun h => nomatch h)
      walk_at "d"
      refine os_T (ts := [.str st.1, .str st.2.1, .str st.2.2.1, .int st.2.2.2]) (show ¬ (HT.sIx 4 0 none = 0 ∧ HT.sIx 4 4 (some 3) = 4) by decide) ?_
      refine ⟨kyOf st, rfl, ?_⟩
      walk_at "d"
      refine ⟨?_, (ways_take hst).symm, rfl⟩
      have := ways_len (r.take i)
      have e2 : (r.take i).length ≤ r.length := by rw [List.length_take]; omega
      omega
    · rintro m δ ⟨rfl, rfl⟩ p
      rw [List.length_map, List.take_length]
      exact hk
theorem getM_none {α β : Type} [DecidableEq α] {m : List (α × β)} {a : α} (h : a ∉ m.map (·.1)) : getM m a = none := by
  induction m with
  | nil => rfl
  | cons p m ih =>
    rw [List.map_cons, List.mem_cons] at h
    unfold getM
    rw [if_neg (fun e => h (.inl e.symm))]
    exact ih fun q => h (.inr q)
theorem fold_nodup : ∀ (r : Room) (m : List (K3 × Int)), (m.map (·.1) ++ r.map kyOf).Nodup → r.foldl (fun m s => putM m (kyOf s) (goalOf s)) m = m ++ r.map fun s => (kyOf s, goalOf s)
  | [], m, _ => by simp
  | s :: r, m, h => by
    rw [List.foldl_cons]
    have hn : kyOf s ∉ m.map (·.1) := by
      intro q
      rw [List.map_cons, List.nodup_append] at h
      exact h.2.2 _ q _ List.mem_cons_self rfl
    have e : putM m (kyOf s) (goalOf s) = m ++ [(kyOf s, goalOf s)] := by unfold putM; rw [getM_none hn]; rfl
    rw [e, fold_nodup r _ (by simpa using h), List.append_assoc]; rfl
theorem ways_nodup {r : Room} (h : (r.map kyOf).Nodup) : ways r = r.map fun s => (kyOf s, goalOf s) := by
  unfold ways; rw [fold_nodup r [] (by simpa using h)]; rfl
theorem enumT_get {ts : List T} {i : Nat} {t : T} (h : (enumT ts)[i]? = some t) : ∃ u, ts[i]? = some u ∧ t = .tup [.int (i : Nat), u] := by
  unfold enumT at h
  rw [List.getElem?_map, List.getElem?_zipIdx] at h
  cases q : ts[i]? with
  | none => rw [q] at h; cases h
  | some u => rw [q] at h; simp at h; exact ⟨u, rfl, h.symm⟩
/-- rooms that make a service -/
def GoodRoom (n : Nat) (r : Room) : Prop := r.length < sizeLine ∧ (∀ s ∈ r, GoodStep n s) ∧ (r.map kyOf).Nodup
def GoodPlan (p : Plan) : Prop := p.length < sizeLine ∧ ∀ r ∈ p, GoodRoom p.length r
abbrev s_check_rooms : Stmt := topS 21
abbrev N_check_rooms : List Str := ["rooms", "steps", "step", "index"]
theorem sc_check_rooms : FnScope N_check_rooms ["rooms"] (defScope s_check_rooms) := ⟨rfl, rfl, rfl, by decide +kernel, rfl, by decide +kernel, by decide +kernel⟩

def SCheckRooms : List T → (RT → Prop) → Prop := fun ts P => ∃ p : Plan, GoodPlan p ∧ ts = [ePlan p] ∧ P (.d .non)
theorem ok_check_rooms {f : Addr} {fd : FuncData} (Fn : Fun K "check_rooms" "check_rooms" s_check_rooms f fd) (TX : TXF mg) (C_check_step : Cal P w K mg base CX0 "check_step" 2 ["step", "count"] (spP ⟨P, w, K⟩ SCheckStep)) (C_next_rooms : Cal P w K mg base CX0 "next_rooms" 1 ["room"] (spP ⟨P, w, K⟩ SNext)) : FnOk P w K mg base CX0 3 f fd ["rooms"] (spP ⟨P, w, K⟩ SCheckRooms) := by
  refine Fn.ok sc_check_rooms (fun vs H Q E h => ?_) (fun cdv A outer s H vs Q E hr h => ?_)
  · obtain ⟨F, ts, _, hd, P, ⟨_, _, rfl, _⟩, _⟩ := h
    rw [hd.length]; rfl
  · obtain ⟨F, ts, fh, hd, PP, ⟨p, hg, rfl, hk⟩, q⟩ := h
    have hu := hr.units
    refine ⟨_, (pss_cons (ps_for PassesOwn.never rfl (pi_listB ⟨P, w, K⟩ rfl (pv 0)) (pg_name (i := 1) sc_check_rooms.nd rfl (Or.inl rfl)) (pss_one (ps_for PassesOwn.never rfl (pi_listB ⟨P, w, K⟩ rfl (pv 1)) (pg_name (i := 2) sc_check_rooms.nd rfl (Or.inl rfl)) (pss_one (ps_expr (pe_call C_check_step.ok (hr.mono (by decide)) (by rfl) C_check_step.mg C_check_step.kp C_check_step.bd .nil pass0 (pa_cons (pv 2) (pa_cons (pe_callB (call_lenB ⟨P, w, K⟩ rfl hu) (by rfl) TX.n_len (by decide +kernel) (pa_cons (pv 0) pa_nil)) pa_nil))))))))
    (pss_one (ps_for PassesOwn.never rfl (pi_enum (by rfl) TX.n_enumerate (pa_cons (pv 0) pa_nil)) (pg_tupB ⟨P, w, K⟩ rfl 2 rfl (pgs_cons (pg_name (i := 3) sc_check_rooms.nd rfl (Or.inl rfl)) (pgs_cons (pg_name (i := 1) sc_check_rooms.nd rfl (Or.inl rfl)) pgs_nil))) (pss_one (ps_if (pt_cmpR op_uLt (pe_callB (call_lenB ⟨P, w, K⟩ rfl hu) (by rfl) TX.n_len (by decide +kernel) (pa_cons (pe_call C_next_rooms.ok (hr.mono (by decide)) (by rfl) C_next_rooms.mg C_next_rooms.kp C_next_rooms.bd .nil pass0 (pa_cons (pv 1) pa_nil)) pa_nil)) (pe_callB (call_lenB ⟨P, w, K⟩ rfl hu) (by rfl) TX.n_len (by decide +kernel) (pa_cons (pv 1) pa_nil)) (nomark _)) (pss_one DL.ps_never) pss_nil))))), ?_⟩
    refine run_P (n := 3) fh hd rfl q ?_
    dsimp only [cxOf]
    obtain ⟨hg0, hg⟩ := hg
    refine es_seqJ (fun δ => ∃ x y, δ = [.d (ePlan p), x, y, .no]) ?_ ?_
    · refine es_forI (ei_L ?_)
      walk_at "d"
      refine ⟨fun i δ => ∃ x y, δ = [.d (ePlan p), x, y, .no], ⟨_, _, rfl⟩, fun _ _ _ => trivial, ?_, fun δ h => h⟩
      rintro i t δ ht ⟨x, y, rfl⟩
      rw [List.getElem?_map] at ht
      obtain ⟨r, hr', rfl⟩ := Option.map_eq_some_iff.mp ht
      have hgr := hg r (List.mem_of_getElem? hr')
      walk_at "d"
      refine es_forI (ei_L ?_)
      walk_at "d"
      refine ⟨fun i δ => ∃ y, δ = [.d (ePlan p), .d (eRoom r), y, .no], ⟨_, rfl⟩, fun _ _ _ => trivial, ?_, fun δ ⟨y, h⟩ => ⟨_, _, h⟩⟩
      rintro j t δ ht ⟨y, rfl⟩
      rw [List.getElem?_map] at ht
      obtain ⟨st, hst, rfl⟩ := Option.map_eq_some_iff.mp ht
      walk_at "d"
      refine ev_callPn ?_
      walk_at "d"
      refine ⟨[eS st, .int (p.map eRoom).length], rfl, st, (p.map eRoom).length, by rw [List.length_map]; exact hgr.2.1 st (List.mem_of_getElem? hst), rfl, ?_⟩
      exact ⟨_, rfl⟩
    · rintro δ ⟨x, y, rfl⟩
      refine es_forI (ei_E ?_)
      walk_at "d"
      refine ⟨fun i δ => ∃ x y z, δ = [.d (ePlan p), x, y, z], ⟨_, _, _, rfl⟩, fun _ _ _ => trivial, ?_, fun δ _ => hk⟩
      rintro i t δ ht ⟨x, y, z, rfl⟩
      obtain ⟨u, hu1, rfl⟩ := enumT_get ht
      rw [List.getElem?_map] at hu1
      obtain ⟨r, hr', rfl⟩ := Option.map_eq_some_iff.mp hu1
      have hgr := hg r (List.mem_of_getElem? hr')
      walk_at "d"
      refine ev_callPn ?_
      walk_at "d"
      refine ⟨[eRoom r], rfl, r, hgr.1, rfl, fun a => ?_⟩
      refine ⟨_, Pu.frO rfl, ?_⟩
      walk_at "d"
      refine ulen_N (ke := k3e) (ev := T.int) (m := ways r) DctV.d ?_
      walk_at "d"
      refine ite2 (fun h => ?_) (fun _ => ?_)
      · exfalso
        have h := of_decide_eq_true h
        rw [ways_nodup hgr.2.2] at h
        simp at h
      · walk_at "d"
        exact ⟨_, _, _, rfl⟩
end
end K

namespace K
open PySem L2 DL
local macro_rules | `(tactic| walk_at "dl") => `(tactic| with_reducible first
  | refine es_if ?_ | refine es_append ?_ | refine es_sub ?_ | refine es_par3 ?_ | refine es_parD ?_ | refine es_asg ?_ | refine es_ret ?_ | refine es_retN ?_ | refine es_next ?_ | refine es_drop ?_ | refine es_break ?_ | refine es_cont ?_
  | refine et_val ?_ | refine et_B ?_ | refine et_not ?_ | refine et_and ?_ | refine et_or ?_ | refine et_yes ?_
  | refine ev_op ?_ | refine ev_un ?_ | refine ev_cb ?_ | refine ev_tup ?_ | refine ev_lst ?_ | refine ev_ifx ?_ | refine ev_andV ?_ | refine ev_orV ?_ | refine ev_notV ?_ | refine ev_sl ?_
  | refine ea_cons ?_ | refine ea_nil ?_ | refine ev_int ?_ | refine ev_str ?_ | refine ev_bl ?_ | refine ev_non ?_ | refine eo_none ?_ | refine eo_some ?_
  | refine gts_cons ?_ | refine gts_nil ?_
  | refine o2_addI ?_ | refine o2_ltI ?_ | refine o2_leI ?_ | refine o2_gtI ?_ | refine o2_geI ?_ | refine o2_ltS ?_ | refine o2_leS ?_ | refine o2_gtS ?_ | refine o2_sub ?_
  | refine oa_intI ?_ | refine oa_intB ?_ | refine oa_abs ?_ | refine oa_two ?_ | refine ulen_R ?_ | refine ulen_T ?_ | refine ulen_L LstV.d ?_
  | (refine ⟨_, Pu.d, ?_⟩) | (refine ⟨_, Pu.ptr, ?_⟩) | (refine ⟨_, Pu.fr, ?_⟩))
local macro_rules | `(tactic| walk_at "dv") => `(tactic| first
  | refine ev_var (by rfl) ?_ | refine ev_ptr (.inl (by rfl)) ?_ | refine ev_ptr (.inr (.inl (by rfl))) ?_ | refine ev_ptr (.inr (.inr (by rfl))) ?_
  | refine uix_L (LstV.o ⟨0, .inr (by rfl)⟩) (by rfl) ?_ | refine uix_L LstV.d (by rfl) ?_ | refine uix_T (by rfl) ?_
  | refine gt_tup (by rfl) ?_ | refine gt_name (by first | exact all_in | simp) ?_ | refine ⟨_, rfl, ?_⟩)
local macro_rules | `(tactic| walk_at "e") => `(tactic| repeat (first | walk_at "dl" | walk_at "dv"))
local macro_rules | `(tactic| walk_at "d") => `(tactic| repeat (first | with_reducible refine es_seq ?_ | walk_at "dl" | walk_at "dv"))
section
variable {P : Program} {w : World} {K : PySem.W.Frag} {mg : Str → Option Value} {base : Heap}
/-- a service that is made of least rooms q -/
def objS (C : Addr) (q : Plan) : T := .obj C ["_rooms"] [ePlan q]
/-- a row of keys goes from room i -/
def goRow (q : Plan) : Nat → List K3 → Bool
  | _, [] => true
  | i, k :: ks => match q[i]? with
    | none => false
    | some r => match getM (ways r) k with
      | none => false
      | some j => goRow q j.toNat ks
theorem goRow_cons (q : Plan) (i : Nat) (k : K3) (ks : List K3) : goRow q i (k :: ks) = (match q[i]? with
    | none => false
    | some r => match getM (ways r) k with
      | none => false
      | some j => goRow q j.toNat ks) := rfl
abbrev s_Service_has : Stmt := inClass (topS 20) 10
abbrev N_Service_has : List Str := ["self", "row", "at", "step", "ways"]
theorem sc_Service_has : FnScope N_Service_has ["self", "row"] (defScope s_Service_has) := ⟨rfl, rfl, rfl, by decide +kernel, rfl, by decide +kernel, by decide +kernel⟩

/-- rooms that lead to rooms -/
def Closed (q : Plan) : Prop := q ≠ [] ∧ ∀ r ∈ q, r.length < sizeLine ∧ ∀ s ∈ r, 0 ≤ goalOf s ∧ goalOf s < q.length
def SHas (C : Addr) : List T → (RT → Prop) → Prop := fun ts P => ∃ (q : Plan) (ks : List K3), Closed q ∧ ts = [objS C q, .lst (ks.map eK)] ∧ P (.d (.bl (goRow q 0 ks)))
theorem getM_mem {α β : Type} [DecidableEq α] : ∀ {m : List (α × β)} {a : α} {b : β}, getM m a = some b → (a, b) ∈ m
  | p :: m, a, b, h => by
    unfold getM at h
    split at h
    · rename_i e; cases h; subst e; exact List.mem_cons_self
    · exact List.mem_cons_of_mem _ (getM_mem h)
theorem putM_mem {α β : Type} [DecidableEq α] {m : List (α × β)} {a : α} {b : β} {p : α × β} (h : p ∈ putM m a b) : p ∈ m ∨ p = (a, b) := by
  unfold putM at h
  split at h
  · obtain ⟨x, hx, rfl⟩ := List.mem_map.mp h
    split
    · rename_i e; right; rw [e]
    · exact .inl hx
  · rcases List.mem_append.mp h with h | h
    · exact .inl h
    · right; simpa using h
theorem fold_mem : ∀ (r : Room) (m : List (K3 × Int)) (p : K3 × Int), p ∈ r.foldl (fun m s => putM m (kyOf s) (goalOf s)) m → p ∈ m ∨ ∃ s ∈ r, p = (kyOf s, goalOf s)
  | [], m, p, h => .inl h
  | s :: r, m, p, h => by
    rw [List.foldl_cons] at h
    rcases fold_mem r _ p h with h | ⟨s', h1, h2⟩
    · rcases putM_mem h with h | h
      · exact .inl h
      · exact .inr ⟨s, List.mem_cons_self, h⟩
    · exact .inr ⟨s', List.mem_cons_of_mem _ h1, h2⟩
theorem ways_goal {r : Room} {k : K3} {j : Int} (h : getM (ways r) k = some j) : ∃ s ∈ r, j = goalOf s := by
  rcases fold_mem _ _ _ (getM_mem h) with h | ⟨s, h1, h2⟩
  · cases h
  · cases h2; exact ⟨s, h1, rfl⟩
theorem ok_has {f C : Addr} {fd : FuncData} (Fn : Fun K "has" "Service.has" s_Service_has f fd) (TX : TXF mg) (hC : Cls K C) (hR : NoAttr K C "_rooms") (C_next_rooms : Cal P w K mg base CX0 "next_rooms" 1 ["room"] (spP ⟨P, w, K⟩ SNext)) : FnOk P w K mg base CX0 2 f fd ["self", "row"] (spP ⟨P, w, K⟩ (SHas C)) := by
  refine Fn.ok sc_Service_has (fun vs H Q E h => ?_) (fun cdv A outer s H vs Q E hr h => ?_)
  · obtain ⟨F, ts, _, hd, P, ⟨_, _, _, rfl, _⟩, _⟩ := h
    rw [hd.length]; rfl
  · obtain ⟨F, ts, fh, hd, PP, ⟨q', ks, hcl, rfl, hk⟩, q⟩ := h
    have hu := hr.units
    refine ⟨_, (pss_cons (ps_set (i := 2) sc_Service_has.nd rfl (Or.inl rfl) pe_int)
    (pss_cons (ps_for PassesOwn.never rfl (pi_listB ⟨P, w, K⟩ rfl (pv 1)) (pg_name (i := 3) sc_Service_has.nd rfl (Or.inl rfl)) (pss_cons (ps_set (i := 4) sc_Service_has.nd rfl (Or.inl rfl) (pe_call C_next_rooms.ok (hr.mono (by decide)) (by rfl) C_next_rooms.mg C_next_rooms.kp C_next_rooms.bd .nil pass0 (pa_cons (pe_ix (ix_B ⟨P, w, K⟩ rfl hu) (pe_fldB ⟨P, w, K⟩ rfl (pv 0) (by rfl)) (pv 2) (fun _ _ => rfl)) pa_nil)))
    (pss_cons (ps_if (pt_cmpR (op_notInB ⟨P, w, K⟩ rfl hu) (pv 3) (pv 4) (by with_unfolding_all rfl)) (pss_one (ps_ret pe_bl)) pss_nil)
    (pss_one (ps_set (i := 2) sc_Service_has.nd rfl (Or.inl rfl) (pe_ix (ix_B ⟨P, w, K⟩ rfl hu) (pv 4) (pv 3) (fun _ _ => rfl)))))))
    (pss_one (ps_ret pe_bl)))), ?_⟩
    refine run_P (n := 3) fh hd rfl q ?_
    dsimp only [cxOf]
    refine es_seq ?_
    walk_at "e"
    refine es_seqJ (fun δ => goRow q' 0 ks = true) ?_ ?_
    · refine es_forI (ei_L ?_)
      walk_at "d"
      refine ⟨fun i δ => ∃ (j : Nat) (x y : SV), j < q'.length ∧ goRow q' 0 ks = goRow q' j (ks.drop i) ∧ δ = [.d (objS C q'), .d (.lst (ks.map eK)), .d (.int j), x, y], ⟨0, _, _, List.length_pos_iff.mpr hcl.1, rfl, rfl⟩, fun _ _ _ => trivial, ?_, ?_⟩
      · rintro i t δ ht ⟨j, x, y, hj, hrow, rfl⟩
        rw [List.getElem?_map] at ht
        obtain ⟨k, hki, rfl⟩ := Option.map_eq_some_iff.mp ht
        have hr' : q'[j]? = some q'[j] := by simp [hj]
        have hgr := hcl.2 q'[j] (List.getElem_mem hj)
        have hdrop : ks.drop i = k :: ks.drop (i + 1) := (List.drop_eq_getElem?_toList_append (l := ks) (i := i)).trans (by rw [hki]; rfl)
        rw [hdrop, goRow_cons, hr'] at hrow
        dsimp only at hrow
        walk_at "d"
        refine ev_callPn ?_
        walk_at "d"
        refine ev_fld (C := C) (ns := ["_rooms"]) (us := [ePlan q']) (t := ePlan q') hC hR ?_
        walk_at "d"
        refine ⟨rfl, rfl, ?_⟩
        walk_at "d"
        refine uix_L LstV.d (ts := q'.map eRoom) (t := eRoom q'[j]) (atI_nat (by simp [hj])) ?_
        walk_at "d"
        refine ⟨[eRoom q'[j]], rfl, q'[j], hgr.1, rfl, fun a => ?_⟩
        walk_at "d"
        refine uni_N (ke := k3e) (ev := T.int) (k := k) (m := ways q'[j]) (DctV.o ⟨4, .inl rfl⟩) ?_
        refine ⟨_, rfl, ?_⟩
        cases hw : getM (ways q'[j]) k with
        | none =>
          rw [hw] at hrow
          refine ite2 (fun _ => ?_) (fun h => absurd rfl h)
          walk_at "d"
          rw [hrow] at hk
          exact hk
        | some j' =>
          rw [hw] at hrow
          refine ite2 (fun h => nomatch h) (fun _ => ?_)
          walk_at "d"
          refine uix_N (ke := k3e) (ev := T.int) (k := k) (m := ways q'[j]) (DctV.o ⟨4, .inl rfl⟩) hw ?_
          walk_at "d"
          obtain ⟨st, hs1, rfl⟩ := ways_goal hw
          have hb := hgr.2 st hs1
          have e0 : ((goalOf st).toNat : Int) = goalOf st := Int.toNat_of_nonneg hb.1
          exact ⟨(goalOf st).toNat, .d (eK k), .own a (.N k3e T.int (ways q'[j])), by omega, hrow, by rw [e0]; rfl⟩
      · rintro δ ⟨j, x, y, hj, hrow, rfl⟩
        rw [hrow, List.length_map, List.drop_length]; rfl
    · intro δ h
      walk_at "d"
      rw [h] at hk
      exact hk
end
end K

namespace K
open PySem L2 DL
local macro_rules | `(tactic| walk_at "dl") => `(tactic| with_reducible first
  | refine es_if ?_ | refine es_append ?_ | refine es_sub ?_ | refine es_par3 ?_ | refine es_parD ?_ | refine es_asg ?_ | refine es_ret ?_ | refine es_retN ?_ | refine es_next ?_ | refine es_drop ?_ | refine es_break ?_ | refine es_cont ?_
  | refine et_val ?_ | refine et_B ?_ | refine et_not ?_ | refine et_and ?_ | refine et_or ?_ | refine et_yes ?_
  | refine ev_op ?_ | refine ev_un ?_ | refine ev_cb ?_ | refine ev_tup ?_ | refine ev_lst ?_ | refine ev_ifx ?_ | refine ev_andV ?_ | refine ev_orV ?_ | refine ev_notV ?_ | refine ev_sl ?_
  | refine ea_cons ?_ | refine ea_nil ?_ | refine ev_int ?_ | refine ev_str ?_ | refine ev_bl ?_ | refine ev_non ?_ | refine eo_none ?_ | refine eo_some ?_
  | refine gts_cons ?_ | refine gts_nil ?_
  | refine o2_addI ?_ | refine o2_ltI ?_ | refine o2_leI ?_ | refine o2_gtI ?_ | refine o2_geI ?_ | refine o2_ltS ?_ | refine o2_leS ?_ | refine o2_gtS ?_ | refine o2_sub ?_
  | refine oa_intI ?_ | refine oa_intB ?_ | refine oa_abs ?_ | refine oa_two ?_ | refine ulen_R ?_ | refine ulen_T ?_ | refine ulen_L LstV.d ?_
  | (refine ⟨_, Pu.d, ?_⟩) | (refine ⟨_, Pu.ptr, ?_⟩) | (refine ⟨_, Pu.fr, ?_⟩))
local macro_rules | `(tactic| walk_at "dv") => `(tactic| first
  | refine ev_var (by rfl) ?_ | refine ev_ptr (.inl (by rfl)) ?_ | refine ev_ptr (.inr (.inl (by rfl))) ?_ | refine ev_ptr (.inr (.inr (by rfl))) ?_
  | refine uix_L (LstV.o ⟨0, .inr (by rfl)⟩) (by rfl) ?_ | refine uix_L LstV.d (by rfl) ?_ | refine uix_T (by rfl) ?_
  | refine gt_tup (by rfl) ?_ | refine gt_name (by first | exact all_in | simp) ?_ | refine ⟨_, rfl, ?_⟩)
local macro_rules | `(tactic| walk_at "e") => `(tactic| repeat (first | walk_at "dl" | walk_at "dv"))
local macro_rules | `(tactic| walk_at "d") => `(tactic| repeat (first | with_reducible refine es_seq ?_ | walk_at "dl" | walk_at "dv"))
section
variable {P : Program} {w : World} {K : PySem.W.Frag} {mg : Str → Option Value} {base : Heap}
abbrev s_law_goal : Stmt := topS 35
abbrev N_law_goal : List Str := ["steps_here", "key", "found", "sign", "line", "word", "goal"]
theorem sc_law_goal : FnScope N_law_goal ["steps_here", "key"] (defScope s_law_goal) := ⟨rfl, rfl, rfl, by decide +kernel, rfl, by decide +kernel, by decide +kernel⟩

def optT : Option Int → T
  | none => .non
  | some i => .int i
def SGoal : List T → (RT → Prop) → Prop := fun ts P => ∃ (r : Room) (k : K3), (∀ s ∈ r, okS s) ∧ okK k ∧ ts = [eRoom r, eK k] ∧ P (.d (optT (getM (ways r) k)))
theorem getM_put {α β : Type} [DecidableEq α] (m : List (α × β)) (a : α) (b : β) (k : α) : getM (putM m a b) k = if a = k then some b else getM m k := by
  unfold putM
  split
  · rename_i h
    induction m with
    | nil => cases h
    | cons p m ih =>
      obtain ⟨x, y⟩ := p
      rw [List.map_cons]
      by_cases e : x = a
      · subst e
        by_cases q : x = k
        · subst q; simp [getM]
        · have rest : getM (m.map fun p => if p.1 = x then (p.1, b) else p) k = getM m k := by
            clear ih h
            induction m with
            | nil => rfl
            | cons z m ih =>
              obtain ⟨z1, z2⟩ := z
              rw [List.map_cons]
              by_cases e2 : z1 = x
              · subst e2; simp [getM, q, ih]
              · by_cases e3 : z1 = k
                · subst e3; simp [getM, e2]
                · simp [getM, e2, e3, ih]
          simp [getM, q, rest]
      · have h' : (getM m a).isSome = true := by simpa [getM, e] using h
        by_cases q : x = k
        · subst q; simp [getM, e, Ne.symm e]
        · simp [getM, e, q, ih h']
  · rename_i h
    have h : getM m a = none := by simpa using h
    induction m with
    | nil => simp [getM]
    | cons p m ih =>
      obtain ⟨x, y⟩ := p
      have e : x ≠ a := fun e => by subst e; simp [getM] at h
      have h' : getM m a = none := by simpa [getM, e] using h
      by_cases q : x = k
      · subst q; simp [getM, Ne.symm e]
      · simp [getM, q]; have := ih (by simp [h']) h'; simpa using this
theorem ok_goal {f : Addr} {fd : FuncData} (Fn : Fun K "_law_goal" "_law_goal" s_law_goal f fd) (TX : TXF mg) : FnOk P w K mg base CX0 1 f fd ["steps_here", "key"] (spP ⟨P, w, K⟩ SGoal) := by
  refine Fn.ok sc_law_goal (fun vs H Q E h => ?_) (fun cdv A outer s H vs Q E hr h => ?_)
  · obtain ⟨F, ts, _, hd, P, ⟨_, _, _, _, rfl, _⟩, _⟩ := h
    rw [hd.length]; rfl
  · obtain ⟨F, ts, fh, hd, PP, ⟨r, k, h1, h2, rfl, hk⟩, q⟩ := h
    have hu := hr.units
    refine ⟨_, (pss_cons (ps_set (i := 2) sc_law_goal.nd rfl (Or.inl rfl) pe_non)
    (pss_cons (ps_for PassesOwn.never rfl (pi_listB ⟨P, w, K⟩ rfl (pv 0)) (pg_tupB ⟨P, w, K⟩ rfl 4 rfl (pgs_cons (pg_name (i := 3) sc_law_goal.nd rfl (Or.inl rfl)) (pgs_cons (pg_name (i := 4) sc_law_goal.nd rfl (Or.inl rfl)) (pgs_cons (pg_name (i := 5) sc_law_goal.nd rfl (Or.inl rfl)) (pgs_cons (pg_name (i := 6) sc_law_goal.nd rfl (Or.inl rfl)) pgs_nil))))) (pss_one (ps_if (pt_cmpR (op_eqB ⟨P, w, K⟩ rfl hu) (pe_tup (pa_cons (pv 3) (pa_cons (pv 4) (pa_cons (pv 5) pa_nil)))) (pv 1) (nomark _)) (pss_one (ps_set (i := 2) sc_law_goal.nd rfl (Or.inl rfl) (pv 6))) pss_nil)))
    (pss_one (ps_ret (pv 2))))), ?_⟩
    refine run_P (n := 5) fh hd rfl q ?_
    dsimp only [cxOf]
    refine es_seq ?_
    walk_at "e"
    refine es_seqJ (fun δ => ∃ a b c d, δ = [.d (eRoom r), .d (eK k), .d (optT (getM (ways r) k)), a, b, c, d]) ?_ ?_
    · refine es_forI (ei_L ?_)
      walk_at "d"
      refine ⟨fun i δ => ∃ a b c d, δ = [.d (eRoom r), .d (eK k), .d (optT (getM (ways (r.take i)) k)), a, b, c, d], ⟨_, _, _, _, rfl⟩, fun _ _ _ => trivial, ?_, ?_⟩
      · rintro i t δ ht ⟨a, b, c, d, rfl⟩
        rw [List.getElem?_map] at ht
        obtain ⟨st, hst, rfl⟩ := Option.map_eq_some_iff.mp ht
        have hway : getM (ways (r.take (i + 1))) k = if kyOf st = k then some (goalOf st) else getM (ways (r.take i)) k := by rw [ways_take hst, getM_put]
        have hok := h1 st (List.mem_of_getElem? hst)
        obtain ⟨s1, s2, s3, s4⟩ := st
        unfold eS
        dsimp only
        walk_at "d"
        refine ⟨[.str s1, .str s2, .str s3], rfl, (show 3 ≤ sizeLine by decide), ?_⟩
        walk_at "d"
        refine o2_eq (t := eK (s1, s2, s3)) (u := eK k) (eK_py _) (eK_py _) (dK_shaped hok) (dK_shaped h2) (dK_eqv _ _) ?_
        refine ⟨_, rfl, ?_⟩
        by_cases e : (s1, s2, s3) = k
        · rw [decide_eq_true e]
          refine ite2 (fun _ => ?_) (fun h => absurd rfl h)
          walk_at "d"
          have e' : kyOf (s1, s2, s3, s4) = k := e
          rw [hway, if_pos e']
          exact ⟨_, _, _, _, rfl⟩
        · rw [decide_eq_false e]
          refine ite2 (fun h => nomatch h) (fun _ => ?_)
          walk_at "d"
          have e' : ¬ kyOf (s1, s2, s3, s4) = k := e
          rw [hway, if_neg e']
          exact ⟨_, _, _, _, rfl⟩
      · rintro δ h
        rw [List.length_map, List.take_length] at h
        exact h
    · rintro δ ⟨a, b, c, d, rfl⟩
      walk_at "d"
      exact hk
abbrev s_law_has_row : Stmt := topS 39
abbrev N_law_has_row : List Str := ["plan", "path", "at", "key"]
theorem sc_law_has_row : FnScope N_law_has_row ["plan", "path"] (defScope s_law_has_row) := ⟨rfl, rfl, rfl, by decide +kernel, rfl, by decide +kernel, by decide +kernel⟩

def SHasRow : List T → (RT → Prop) → Prop := fun ts P => ∃ (p : Plan) (ks : List K3), Closed p ∧ (∀ r ∈ p, ∀ s ∈ r, okS s) ∧ (∀ k ∈ ks, okK k) ∧ ts = [ePlan p, .lst (ks.map eK)] ∧ P (.d (.bl (goRow p 0 ks)))
theorem ok_has_row {f : Addr} {fd : FuncData} (Fn : Fun K "_law_has_row" "_law_has_row" s_law_has_row f fd) (TX : TXF mg) (C_law_goal : Cal P w K mg base CX0 "_law_goal" 1 ["steps_here", "key"] (spP ⟨P, w, K⟩ SGoal)) : FnOk P w K mg base CX0 2 f fd ["plan", "path"] (spP ⟨P, w, K⟩ SHasRow) := by
  refine Fn.ok sc_law_has_row (fun vs H Q E h => ?_) (fun cdv A outer s H vs Q E hr h => ?_)
  · obtain ⟨F, ts, _, hd, P, ⟨_, _, _, _, _, rfl, _⟩, _⟩ := h
    rw [hd.length]; rfl
  · obtain ⟨F, ts, fh, hd, PP, ⟨p, ks, hcl, hp, hks, rfl, hk⟩, q⟩ := h
    have hu := hr.units
    refine ⟨_, (pss_cons (ps_set (i := 2) sc_law_has_row.nd rfl (Or.inl rfl) pe_int)
    (pss_cons (ps_for PassesOwn.never rfl (pi_listB ⟨P, w, K⟩ rfl (pv 1)) (pg_name (i := 3) sc_law_has_row.nd rfl (Or.inl rfl)) (pss_one (ps_if (pt_cmpR op_notN (pv 2) pe_non (nomark _)) (pss_one (ps_set (i := 2) sc_law_has_row.nd rfl (Or.inl rfl) (pe_call C_law_goal.ok (hr.mono (by decide)) (by rfl) C_law_goal.mg C_law_goal.kp C_law_goal.bd .nil pass0 (pa_cons (pe_ix (ix_B ⟨P, w, K⟩ rfl hu) (pv 0) (pv 2) (fun _ _ => rfl)) (pa_cons (pv 3) pa_nil))))) pss_nil)))
    (pss_one (ps_ret (pe_cmpR op_notN (pv 2) pe_non (nomark _)))))), ?_⟩
    refine run_P (n := 2) fh hd rfl q ?_
    dsimp only [cxOf]
    refine es_seq ?_
    walk_at "e"
    refine es_seqJ (fun δ => ∃ (a : Option Int) (x : SV), goRow p 0 ks = a.isSome ∧ δ = [.d (ePlan p), .d (.lst (ks.map eK)), .d (optT a), x]) ?_ ?_
    · refine es_forI (ei_L ?_)
      walk_at "d"
      refine ⟨fun i δ => ∃ (a : Option Int) (x : SV), (goRow p 0 ks = match a with | none => false | some j => goRow p j.toNat (ks.drop i)) ∧ (∀ j, a = some j → 0 ≤ j ∧ j < p.length) ∧ δ = [.d (ePlan p), .d (.lst (ks.map eK)), .d (optT a), x], ⟨some 0, _, rfl, fun j e => by cases e; exact ⟨by decide, by have := List.length_pos_iff.mpr hcl.1; omega⟩, rfl⟩, fun _ _ _ => trivial, ?_, ?_⟩
      · rintro i t δ ht ⟨a, x, hrow, ha, rfl⟩
        rw [List.getElem?_map] at ht
        obtain ⟨k, hki, rfl⟩ := Option.map_eq_some_iff.mp ht
        have hdrop : ks.drop i = k :: ks.drop (i + 1) := (List.drop_eq_getElem?_toList_append (l := ks) (i := i)).trans (by rw [hki]; rfl)
        walk_at "d"
        cases a with
        | none =>
          refine o2_notN (b := true) (fun B F v h => by rw [DV.non_ h]; rfl) ?_
          refine ⟨_, rfl, ite2 (fun h => nomatch h) (fun _ => ?_)⟩
          walk_at "d"
          exact ⟨none, _, hrow, (fun j e => by cases e), rfl⟩
        | some j =>
          have hj := ha j rfl
          have hj' : j.toNat < p.length := by omega
          have hr' : p[j.toNat]? = some p[j.toNat] := by simp [hj']
          have hmem := List.getElem_mem hj'
          have ej : (j.toNat : Int) = j := Int.toNat_of_nonneg hj.1
          dsimp only at hrow
          rw [hdrop, goRow_cons, hr'] at hrow
          dsimp only at hrow
          have key : atI (p.map eRoom) ((j.toNat : Nat) : Int) = some (eRoom p[j.toNat]) := atI_nat (by simp [hj'])
          refine o2_notN (b := false) (fun B F v h => by rw [DV.int_ h]; rfl) ?_
          refine ⟨_, rfl, ite2 (fun _ => ?_) (fun h => absurd rfl h)⟩
          walk_at "d"
          refine ev_callPn ?_
          walk_at "d"
          refine uix_L LstV.d (ts := p.map eRoom) (t := eRoom p[j.toNat]) (by rw [ej] at key; exact key) ?_
          walk_at "d"
          refine ⟨[eRoom p[j.toNat], eK k], rfl, p[j.toNat], k, hp _ hmem, hks k (List.mem_of_getElem? hki), rfl, ?_⟩
          walk_at "d"
          refine ⟨getM (ways p[j.toNat]) k, _, ?_, fun j' e => ?_, rfl⟩
          · rw [hrow]; try (cases getM (ways p[j.toNat]) k <;> rfl)
          · obtain ⟨st, hs1, rfl⟩ := ways_goal e
            exact (hcl.2 _ hmem).2 st hs1
      · rintro δ ⟨a, x, hrow, _, rfl⟩
        rw [List.length_map, List.drop_length] at hrow
        refine ⟨a, x, ?_, rfl⟩
        rw [hrow]; cases a <;> rfl
    · rintro δ ⟨a, x, hrow, rfl⟩
      walk_at "d"
      cases a with
      | none =>
        refine o2_notN (b := true) (fun B F v h => by rw [DV.non_ h]; rfl) ?_
        rw [hrow] at hk; exact hk
      | some j =>
        refine o2_notN (b := false) (fun B F v h => by rw [DV.int_ h]; rfl) ?_
        rw [hrow] at hk; exact hk
end
end K

namespace K
open PySem L2 DL
local macro_rules | `(tactic| walk_at "dl") => `(tactic| with_reducible first
  | refine es_if ?_ | refine es_append ?_ | refine es_sub ?_ | refine es_par3 ?_ | refine es_parD ?_ | refine es_asg ?_ | refine es_ret ?_ | refine es_retN ?_ | refine es_next ?_ | refine es_drop ?_ | refine es_break ?_ | refine es_cont ?_
  | refine et_val ?_ | refine et_B ?_ | refine et_not ?_ | refine et_and ?_ | refine et_or ?_ | refine et_yes ?_
  | refine ev_op ?_ | refine ev_un ?_ | refine ev_cb ?_ | refine ev_tup ?_ | refine ev_lst ?_ | refine ev_ifx ?_ | refine ev_andV ?_ | refine ev_orV ?_ | refine ev_notV ?_ | refine ev_sl ?_
  | refine ea_cons ?_ | refine ea_nil ?_ | refine ev_int ?_ | refine ev_str ?_ | refine ev_bl ?_ | refine ev_non ?_ | refine eo_none ?_ | refine eo_some ?_
  | refine gts_cons ?_ | refine gts_nil ?_
  | refine o2_addI ?_ | refine o2_ltI ?_ | refine o2_leI ?_ | refine o2_gtI ?_ | refine o2_geI ?_ | refine o2_ltS ?_ | refine o2_leS ?_ | refine o2_gtS ?_ | refine o2_sub ?_
  | refine oa_intI ?_ | refine oa_intB ?_ | refine oa_abs ?_ | refine oa_two ?_ | refine ulen_R ?_ | refine ulen_T ?_ | refine ulen_L LstV.d ?_
  | (refine ⟨_, Pu.d, ?_⟩) | (refine ⟨_, Pu.ptr, ?_⟩) | (refine ⟨_, Pu.fr, ?_⟩))
local macro_rules | `(tactic| walk_at "dv") => `(tactic| first
  | refine ev_var (by rfl) ?_ | refine ev_ptr (.inl (by rfl)) ?_ | refine ev_ptr (.inr (.inl (by rfl))) ?_ | refine ev_ptr (.inr (.inr (by rfl))) ?_
  | refine uix_L (LstV.o ⟨0, .inr (by rfl)⟩) (by rfl) ?_ | refine uix_L LstV.d (by rfl) ?_ | refine uix_T (by rfl) ?_
  | refine gt_tup (by rfl) ?_ | refine gt_name (by first | exact all_in | simp) ?_ | refine ⟨_, rfl, ?_⟩)
local macro_rules | `(tactic| walk_at "e") => `(tactic| repeat (first | walk_at "dl" | walk_at "dv"))
local macro_rules | `(tactic| walk_at "d") => `(tactic| repeat (first | with_reducible refine es_seq ?_ | walk_at "dl" | walk_at "dv"))
section
variable {P : Program} {w : World} {K : PySem.W.Frag} {mg : Str → Option Value} {base : Heap}
abbrev s_law_coin : Stmt := topS 28
abbrev N_law_coin : List Str := ["mint", "many", "taken", "mixed"]
theorem sc_law_coin : FnScope N_law_coin ["mint", "many"] (defScope s_law_coin) := ⟨rfl, rfl, rfl, by decide +kernel, rfl, by decide +kernel, by decide +kernel⟩

def SCoin : OW → List T → (OW → RT → Prop) → Prop := fun us ts P => ∃ (n : Nat) (many : Int), n < 100000 ∧ Mint n us ∧ ts = [.int many] ∧ 0 < many ∧ many < 2 ^ 8000 ∧ ∀ us' r, Mint (n + 1) us' → 0 ≤ r → r < many → P us' (.d (.int r))
theorem log2_8000 {j : Int} (h0 : 0 ≤ j) (h : j < 2 ^ 8000) : j.natAbs.log2 < 9000 := by
  have : j.natAbs < 2 ^ 8000 := by omega
  exact Nat.lt_of_lt_of_le (PySem.Flt.log2_lt_of (by decide) this) (by decide)
theorem ok_coin {f : Addr} {fd : FuncData} (Fn : Fun K "_law_coin" "_law_coin" s_law_coin f fd) (TX : TXF mg) : FnOk P w K mg base CX0 1 f fd ["mint", "many"] (spM ⟨P, w, K⟩ SCoin) := by
  refine Fn.ok sc_law_coin (fun vs H Q E h => ?_) (fun cdv A outer s H vs Q E hr h => ?_)
  · obtain ⟨F, m, ws, us, ts, rfl, _, _, _, hd, P, ⟨_, _, _, _, rfl, _⟩, _⟩ := h
    rw [List.length_cons, hd.length]; rfl
  · obtain ⟨F, m, ws, us, ts, rfl, fh, fm, hm, hd, PP, ⟨n, many, hn, ⟨a, b, c, rfl, hb0, hb1, hc0, hc1⟩, rfl, hp, hq, hk⟩, q⟩ := h
    have hu := hr.units
    refine ⟨_, (pss_cons (ps_if (pt_cmpR op_uGt (pe_ix (ix_B ⟨P, w, K⟩ rfl hu) (pv 0) pe_int (fun _ _ => rfl)) pe_int (nomark _)) (pss_cons (ps_set (i := 2) sc_law_coin.nd rfl (Or.inl rfl) (pe_op op_mod (pe_callTy (call_int1') (by rfl) TX.n_int (by decide +kernel) (pa_cons (pe_ix (ix_B ⟨P, w, K⟩ rfl hu) (pv 0) pe_int (fun _ _ => rfl)) pa_nil)) (pv 1)))
    (pss_cons (ps_asg (pe_op op_fdivW (pe_ix (ix_B ⟨P, w, K⟩ rfl hu) (pv 0) pe_int (fun _ _ => rfl)) (pv 1)) (pg_sub (pv 0) pe_int (set_B ⟨P, w, K⟩ rfl hu)))
    (pss_one (ps_ret (pv 2))))) pss_nil)
    (pss_cons (ps_asg (pe_op (op_addB ⟨P, w, K⟩ rfl) (pe_ix (ix_B ⟨P, w, K⟩ rfl hu) (pv 0) pe_int (fun _ _ => rfl)) pe_int) (pg_sub (pv 0) pe_int (set_B ⟨P, w, K⟩ rfl hu)))
    (pss_cons (ps_set (i := 3) sc_law_coin.nd rfl (Or.inl rfl) (pe_op (op_addB ⟨P, w, K⟩ rfl) (pe_op op_pow (pe_op (op_addB ⟨P, w, K⟩ rfl) (pe_ix (ix_B ⟨P, w, K⟩ rfl hu) (pv 0) pe_int (fun _ _ => rfl)) (pe_op op_uMul pe_int (pe_ix (ix_B ⟨P, w, K⟩ rfl hu) (pv 0) pe_int (fun _ _ => rfl)))) pe_int) (pe_op op_uMul pe_int (pe_ix (ix_B ⟨P, w, K⟩ rfl hu) (pv 0) pe_int (fun _ _ => rfl)))))
    (pss_cons (ps_set (i := 3) sc_law_coin.nd rfl (Or.inl rfl) (pe_op (op_addB ⟨P, w, K⟩ rfl) (pe_op op_mod (pe_callTy (call_int1') (by rfl) TX.n_int (by decide +kernel) (pa_cons (pv 3) pa_nil)) pe_int) (pe_op op_uMul pe_int (pe_ix (ix_B ⟨P, w, K⟩ rfl hu) (pv 0) pe_int (fun _ _ => rfl)))))
    (pss_cons (ps_set (i := 3) sc_law_coin.nd rfl (Or.inl rfl) (pe_op op_mod (pe_callTy (call_int1') (by rfl) TX.n_int (by decide +kernel) (pa_cons (pe_op op_pow (pv 3) pe_int) pa_nil)) pe_int))
    (pss_one (ps_ret (pe_op op_mod (pe_callTy (call_int1') (by rfl) TX.n_int (by decide +kernel) (pa_cons (pe_op op_fdivW (pv 3) pe_int) pa_nil)) (pv 1))))))))), ?_⟩
    refine run_M (n := 2) fh fm hm hd rfl q ?_
    dsimp only [cxOf]
    walk_at "d"
    refine ite2 (fun h => ?_) (fun h => ?_)
    · walk_at "d"
      refine o2_mod hp ?_
      walk_at "d"
      refine o2_fdiv ⟨hp, log2_8000 (by omega) hq⟩ ?_
      walk_at "d"
      refine o3_A 0 (by rfl) (by rfl) ?_
      walk_at "d"
      exact hk _ _ ⟨_, b, c, rfl, hb0, hb1, hc0, by omega⟩ (Int.emod_nonneg _ (by omega)) (Int.emod_lt_of_pos _ hp)
    · walk_at "d"
      refine o3_A 0 (by rfl) (by rfl) ?_
      walk_at "d"
      refine o2_mulI (.inl ⟨by decide, by decide⟩) ?_
      walk_at "d"
      refine o2_pow ⟨by decide, by decide, by omega⟩ ?_
      walk_at "d"
      refine o2_mulI (.inl ⟨by decide, by decide⟩) ?_
      walk_at "d"
      refine o2_mod (by decide) ?_
      walk_at "d"
      refine o2_mulI (.inl ⟨by decide, by decide⟩) ?_
      walk_at "d"
      have z1 := Int.emod_nonneg ((b + 6700417 * (c + 1)) ^ (3 : Int).toNat + 97 * (c + 1)) (show (2305843009213693951 : Int) ≠ 0 by decide)
      have z2 := Int.emod_lt_of_pos ((b + 6700417 * (c + 1)) ^ (3 : Int).toNat + 97 * (c + 1)) (show (0 : Int) < 2305843009213693951 by decide)
      refine o2_pow ⟨by decide, by decide, by omega⟩ ?_
      walk_at "d"
      refine o2_mod (by decide) ?_
      walk_at "d"
      refine o2_fdiv ⟨by decide, by decide⟩ ?_
      walk_at "d"
      refine o2_mod hp ?_
      walk_at "d"
      exact hk _ _ ⟨_, b, c + 1, rfl, hb0, hb1, by omega, by omega⟩ (Int.emod_nonneg _ (by omega)) (Int.emod_lt_of_pos _ hp)
end
end K

namespace K
open PySem L2 DL
local macro_rules | `(tactic| walk_at "dl") => `(tactic| with_reducible first
  | refine es_if ?_ | refine es_append ?_ | refine es_sub ?_ | refine es_par3 ?_ | refine es_parD ?_ | refine es_asg ?_ | refine es_ret ?_ | refine es_retN ?_ | refine es_next ?_ | refine es_drop ?_ | refine es_break ?_ | refine es_cont ?_
  | refine et_val ?_ | refine et_B ?_ | refine et_not ?_ | refine et_and ?_ | refine et_or ?_ | refine et_yes ?_
  | refine ev_op ?_ | refine ev_un ?_ | refine ev_cb ?_ | refine ev_tup ?_ | refine ev_lst ?_ | refine ev_ifx ?_ | refine ev_andV ?_ | refine ev_orV ?_ | refine ev_notV ?_ | refine ev_sl ?_
  | refine ea_cons ?_ | refine ea_nil ?_ | refine ev_int ?_ | refine ev_str ?_ | refine ev_bl ?_ | refine ev_non ?_ | refine eo_none ?_ | refine eo_some ?_
  | refine gts_cons ?_ | refine gts_nil ?_
  | refine o2_addI ?_ | refine o2_ltI ?_ | refine o2_leI ?_ | refine o2_gtI ?_ | refine o2_geI ?_ | refine o2_ltS ?_ | refine o2_leS ?_ | refine o2_gtS ?_ | refine o2_sub ?_
  | refine oa_intI ?_ | refine oa_intB ?_ | refine oa_abs ?_ | refine oa_two ?_ | refine ulen_R ?_ | refine ulen_T ?_ | refine ulen_L LstV.d ?_
  | (refine ⟨_, Pu.d, ?_⟩) | (refine ⟨_, Pu.ptr, ?_⟩) | (refine ⟨_, Pu.fr, ?_⟩))
local macro_rules | `(tactic| walk_at "dv") => `(tactic| first
  | refine ev_var (by rfl) ?_ | refine ev_ptr (.inl (by rfl)) ?_ | refine ev_ptr (.inr (.inl (by rfl))) ?_ | refine ev_ptr (.inr (.inr (by rfl))) ?_
  | refine uix_L (LstV.o ⟨0, .inr (by rfl)⟩) (by rfl) ?_ | refine uix_L LstV.d (by rfl) ?_ | refine uix_T (by rfl) ?_
  | refine gt_tup (by rfl) ?_ | refine gt_name (by first | exact all_in | simp) ?_ | refine ⟨_, rfl, ?_⟩)
local macro_rules | `(tactic| walk_at "e") => `(tactic| repeat (first | walk_at "dl" | walk_at "dv"))
local macro_rules | `(tactic| walk_at "d") => `(tactic| repeat (first | with_reducible refine es_seq ?_ | walk_at "dl" | walk_at "dv"))
section
variable {P : Program} {w : World} {K : PySem.W.Frag} {mg : Str → Option Value} {base : Heap}
abbrev s_law_room_steps : Stmt := topS 30
abbrev N_law_room_steps : List Str := ["mint", "count", "lines_here", "words_here", "one_sign", "way", "steps_here", "turn", "sign", "line", "word", "told", "goal"]
theorem sc_law_room_steps : FnScope N_law_room_steps ["mint", "count", "lines_here", "words_here", "one_sign"] (defScope s_law_room_steps) := ⟨rfl, rfl, rfl, by decide +kernel, rfl, by decide +kernel, by decide +kernel⟩

def SRoomSteps : OW → List T → (OW → RT → Prop) → Prop := fun us ts P => ∃ (n : Nat) (count : Nat) (lines words : List Str) (one : Bool), n + 100 < 100000 ∧ Mint n us ∧ 0 < count ∧ count ≤ 1000 ∧ lines ≠ [] ∧ words ≠ [] ∧ lines.length ≤ 100 ∧ words.length ≤ 100 ∧ (∀ x ∈ lines, IsName x) ∧ (∀ x ∈ words, IsName x) ∧
  ts = [.int count, .lst (lines.map .str), .lst (words.map .str), .bl one] ∧ ∀ us' (r : Room), Mint (n + 20) us' → GoodRoom count r → r.length ≤ 3 → P us' (.new (.lst (r.map eS)))
/-- a draw of a mint that is the def's first argument -/
theorem ev_coin {c : Cn} {δ : List SV} {Post : List SV → SV → Prop} {ta : TA} {E : XK} (h : EVA c ta δ fun δ1 rs => ∃ (a : Addr) (us : OW) (n : Nat) (many : Int), rs = [.ptr a, .d (.int many)] ∧ δ1[0]? = some (SV.arg a us) ∧ Mint n us ∧ n < 100000 ∧ 0 < many ∧ many < 2 ^ 8000 ∧
    ∀ us' r, Mint (n + 1) us' → 0 ≤ r → r < many → Post (δ1.set 0 (.arg a us')) (.d (.int r))) : EV c (tCall (spM c.B SCoin) [] E ta) δ Post :=
  ev_callM fun σ H ρ Q S q => h σ H ρ Q S fun vs H' δ' rs ⟨a, us, n, many, e, h0, hm, hn, hp, hq, k⟩ => q vs H' δ' rs ⟨a, [.int many], e, 0, us, fun us' r => Mint (n + 1) us' ∧ ∃ i, r = .d (.int i) ∧ 0 ≤ i ∧ i < many, ⟨n, many, hn, hm, rfl, hp, hq, fun us' r h1 h2 h3 => ⟨h1, r, rfl, h2, h3⟩⟩, .inr ⟨h0, fun us' r ⟨h1, i, e, h2, h3⟩ => by subst e; exact k us' i h1 h2 h3⟩⟩
theorem small {j : Int} (h : j < 2 ^ 64) : j < 2 ^ 8000 := Int.lt_of_lt_of_le h (by decide +kernel)
def mkS (p : K3 × Int) : Stp := (p.1.1, p.1.2.1, p.1.2.2, p.2)
/-- ways out that a room is made of -/
def GoodM (n : Nat) (m : List (K3 × Int)) : Prop := (m.map (·.1)).Nodup ∧ ∀ p ∈ m, (p.1.1 = "!" ∨ p.1.1 = "?") ∧ IsName p.1.2.1 ∧ IsName p.1.2.2 ∧ 0 ≤ p.2 ∧ p.2 < n
theorem getM_nmem {α β : Type} [DecidableEq α] {m : List (α × β)} {a : α} (h : getM m a = none) : a ∉ m.map (·.1) := by
  induction m with
  | nil => simp
  | cons p m ih =>
    obtain ⟨x, y⟩ := p
    by_cases e : x = a
    · subst e; simp [getM] at h
    · have h' : getM m a = none := by simpa [getM, e] using h
      rw [List.map_cons, List.mem_cons]
      exact fun q => q.elim (fun z => e z.symm) (ih h')
theorem putM_keys {α β : Type} [DecidableEq α] {m : List (α × β)} {a : α} {b : β} (h : (m.map (·.1)).Nodup) : ((putM m a b).map (·.1)).Nodup := by
  unfold putM
  split
  · rw [List.map_map]
    have e : m.map ((fun p : α × β => p.1) ∘ fun p => if p.1 = a then (p.1, b) else p) = m.map (·.1) := List.map_congr_left fun p _ => by
      show (if p.1 = a then (p.1, b) else p).1 = p.1
      split <;> rfl
    rw [e]; exact h
  · rename_i q
    have q : getM m a = none := by simpa using q
    rw [List.map_append, List.nodup_append]
    refine ⟨h, by simp, fun x hx y hy e => ?_⟩
    simp at hy
    subst hy; subst e
    exact getM_nmem q hx
theorem GoodM.put {n : Nat} {m : List (K3 × Int)} {k1 k2 k3 : Str} {v : Int} (h : GoodM n m) (h1 : k1 = "!" ∨ k1 = "?") (h2 : IsName k2) (h3 : IsName k3) (h4 : 0 ≤ v) (h5 : v < n) : GoodM n (putM m (k1, k2, k3) v) :=
  ⟨putM_keys h.1, fun p hp => (putM_mem hp).elim (h.2 p) fun e => by subst e; exact ⟨h1, h2, h3, h4, h5⟩⟩
theorem Mint.mono {n m : Nat} {us : OW} (h : Mint n us) (l : n ≤ m) : Mint m us := let ⟨a, b, k, e, h1, h2, h3, h4⟩ := h; ⟨a, b, k, e, h1, h2, h3, by omega⟩
theorem ok_room_steps {f : Addr} {fd : FuncData} (Fn : Fun K "_law_room_steps" "_law_room_steps" s_law_room_steps f fd) (TX : TXF mg) (C_law_coin : Cal P w K mg base CX0 "_law_coin" 1 ["mint", "many"] (spM ⟨P, w, K⟩ SCoin)) : FnOk P w K mg base CX0 2 f fd ["mint", "count", "lines_here", "words_here", "one_sign"] (spM ⟨P, w, K⟩ SRoomSteps) := by
  refine Fn.ok sc_law_room_steps (fun vs H Q E h => ?_) (fun cdv A outer s H vs Q E hr h => ?_)
  · obtain ⟨F, m, ws, us, ts, rfl, _, _, _, hd, P, ⟨_, _, _, _, _, _, _, _, _, _, _, _, _, _, _, rfl, _⟩, _⟩ := h
    rw [List.length_cons, hd.length]; rfl
  · obtain ⟨F, m, ws, us, ts, rfl, fh, fm, hm, hd, PP, ⟨n, count, lines, words, one, hn, hmint, hc0, hc1, hl0, hw0, hl1, hw1, hln, hwn, rfl, hk⟩, q⟩ := h
    have hu := hr.units
    refine ⟨_, (pss_cons (ps_par (i := 5) (j := 6) (by rfl) sc_law_room_steps.nd rfl rfl (by decide) rfl rfl (pa_cons (pe_call C_law_coin.ok (hr.mono (by decide)) (by rfl) C_law_coin.mg C_law_coin.kp C_law_coin.bd .nil pass0 (pa_cons (pv 0) (pa_cons pe_int pa_nil))) (pa_cons pe_dnewN pa_nil)) (by rfl))
    (pss_cons (ps_for PassesOwn.never rfl (pi_range1 (by rfl) TX.n_range (pa_cons (pe_ifExp (pt_cmpR op_uLt (pv 5) pe_int (nomark _)) pe_int (pe_op (op_addB ⟨P, w, K⟩ rfl) pe_int (pe_call C_law_coin.ok (hr.mono (by decide)) (by rfl) C_law_coin.mg C_law_coin.kp C_law_coin.bd .nil pass0 (pa_cons (pv 0) (pa_cons pe_int pa_nil))))) pa_nil)) (pg_name (i := 7) sc_law_room_steps.nd rfl (Or.inl rfl)) (pss_cons (ps_set (i := 8) sc_law_room_steps.nd rfl (Or.inl rfl) (pe_ix (ix_B ⟨P, w, K⟩ rfl hu) (pe_lst (pa_cons pe_str (pa_cons pe_str pa_nil))) (pe_ifExp (PW.pt (pw_or (pt_truth (pv 4) (by intro _; rfl)) (pw_or1 (pt_cmpR (op_eqB ⟨P, w, K⟩ rfl hu) (pe_call C_law_coin.ok (hr.mono (by decide)) (by rfl) C_law_coin.mg C_law_coin.kp C_law_coin.bd .nil pass0 (pa_cons (pv 0) (pa_cons pe_int pa_nil))) pe_int (nomark _))))) (pe_op op_and (pv 5) pe_int) (pe_call C_law_coin.ok (hr.mono (by decide)) (by rfl) C_law_coin.mg C_law_coin.kp C_law_coin.bd .nil pass0 (pa_cons (pv 0) (pa_cons pe_int pa_nil)))) (fun _ _ => rfl)))
    (pss_cons (ps_par (i := 9) (j := 10) (by rfl) sc_law_room_steps.nd rfl rfl (by decide) rfl rfl (pa_cons (pe_ix (ix_B ⟨P, w, K⟩ rfl hu) (pv 2) (pe_call C_law_coin.ok (hr.mono (by decide)) (by rfl) C_law_coin.mg C_law_coin.kp C_law_coin.bd .nil pass0 (pa_cons (pv 0) (pa_cons (pe_callB (call_lenB ⟨P, w, K⟩ rfl hu) (by rfl) TX.n_len (by decide +kernel) (pa_cons (pv 2) pa_nil)) pa_nil))) (fun _ _ => rfl)) (pa_cons (pe_ix (ix_B ⟨P, w, K⟩ rfl hu) (pv 3) (pe_call C_law_coin.ok (hr.mono (by decide)) (by rfl) C_law_coin.mg C_law_coin.kp C_law_coin.bd .nil pass0 (pa_cons (pv 0) (pa_cons (pe_callB (call_lenB ⟨P, w, K⟩ rfl hu) (by rfl) TX.n_len (by decide +kernel) (pa_cons (pv 3) pa_nil)) pa_nil))) (fun _ _ => rfl)) pa_nil)) (by rfl))
    (pss_one (ps_asg (pe_call C_law_coin.ok (hr.mono (by decide)) (by rfl) C_law_coin.mg C_law_coin.kp C_law_coin.bd .nil pass0 (pa_cons (pv 0) (pa_cons (pv 1) pa_nil))) (pg_sub (pv 6) (pe_tup (pa_cons (pv 8) (pa_cons (pv 9) (pa_cons (pv 10) pa_nil)))) (set_B ⟨P, w, K⟩ rfl hu)))))))
    (pss_one (ps_ret (pe_lock (pe_lc (own := [("told", 11), ("goal", 12)]) (by rfl) sc_law_room_steps.nd (pi_itemsN (pv 6)) (blkOk_by (N := N_law_room_steps) (sc := defScope s_law_room_steps) (by decide +kernel)) (fun _ _ _ _ _ => (pg_tupB ⟨P, w, K⟩ rfl 2 rfl (pgs_cons (pg_name (i := 11) sc_law_room_steps.nd rfl (Or.inl rfl)) (pgs_cons (pg_name (i := 12) sc_law_room_steps.nd rfl (Or.inl rfl)) pgs_nil)))) (fun _ _ _ _ _ => pts_nil) (fun _ _ _ _ _ => (pe_tup (pa_cons (pe_ix (ix_B ⟨P, w, K⟩ rfl hu) (pv 11) pe_int (fun _ _ => rfl)) (pa_cons (pe_ix (ix_B ⟨P, w, K⟩ rfl hu) (pv 11) pe_int (fun _ _ => rfl)) (pa_cons (pe_ix (ix_B ⟨P, w, K⟩ rfl hu) (pv 11) pe_int (fun _ _ => rfl)) (pa_cons (pv 12) pa_nil)))))))))))), ?_⟩
    refine run_M (n := 8) fh fm hm hd rfl q ?_
    dsimp only [cxOf]
    refine es_seq ?_
    refine es_parO (by decide) ?_
    refine ea_cons (ev_coin ?_)
    walk_at "e"
    refine ⟨_, us, n, 6, rfl, rfl, hmint, by omega, by decide, small (by decide), fun us1 way hm1 hw1 hw2 => ?_⟩
    refine ⟨_, Pu.d, ?_⟩
    refine ea_consK ?_
    refine ev_newN k3e T.int fun p => ?_
    refine ⟨_, _, rfl, ?_⟩
    walk_at "e"
    refine ⟨_, _, _, rfl, ?_⟩
    refine es_seqJ (fun δ => ∃ (us2 : OW) (mm : List (K3 × Int)) (p : Addr) (x1 x2 x3 x4 x5 x6 : SV), Mint (n + 18) us2 ∧ GoodM count mm ∧ mm.length ≤ 3 ∧ δ = [.arg m us2, .d (.int count), .d (.lst (lines.map .str)), .d (.lst (words.map .str)), .d (.bl one), .d (.int way), .own p (.N k3e T.int mm), x1, x2, x3, x4, x5, x6]) ?_ ?_
    · refine es_forI (ei_R (ea_cons (EV.imp (P := fun δ r => ∃ (us2 : OW) (cnt : Nat), Mint (n + 2) us2 ∧ cnt ≤ 3 ∧ r = .d (.int cnt) ∧ δ = [.arg m us2, .d (.int count), .d (.lst (lines.map .str)), .d (.lst (words.map .str)), .d (.bl one), .d (.int way), .own p (.N k3e T.int []), .no, .no, .no, .no, .no, .no]) ?_ ?_)))
      · walk_at "d"
        refine ite2 (fun h => ?_) (fun h => ?_)
        · walk_at "d"
          exact ⟨us1, 0, hm1.mono (by omega), by omega, rfl, rfl⟩
        · walk_at "d"
          refine ev_coin ?_
          walk_at "d"
          refine ⟨_, us1, n + 1, 3, rfl, rfl, hm1, by omega, by decide, small (by decide), fun us2 r hm2 hr1 hr2 => ?_⟩
          walk_at "d"
          exact ⟨us2, (1 + r).toNat, hm2, by omega, by rw [Int.toNat_of_nonneg (by omega)], rfl⟩
      · rintro δ r ⟨us2, cnt, hm2, hcnt, rfl, rfl⟩
        walk_at "d"
        refine ⟨by omega, fun i δ => ∃ (us2 : OW) (mm : List (K3 × Int)) (x1 x2 x3 x4 x5 x6 : SV), Mint (n + 3 + 5 * i) us2 ∧ GoodM count mm ∧ mm.length ≤ i ∧ δ = [.arg m us2, .d (.int count), .d (.lst (lines.map .str)), .d (.lst (words.map .str)), .d (.bl one), .d (.int way), .own p (.N k3e T.int mm), x1, x2, x3, x4, x5, x6], ⟨us2, [], _, _, _, _, _, _, hm2.mono (by omega), ⟨.nil, fun _ h => nomatch h⟩, by simp, rfl⟩, fun _ _ _ => trivial, ?_, ?_⟩
        · rintro i t δ ht ⟨us3, mm, x1, x2, x3, x4, x5, x6, hm3, hg, hl, rfl⟩
          have hi : i < cnt := by
            have := (List.getElem?_eq_some_iff.mp ht).1
            simpa using this
          walk_at "d"
          refine ⟨[.str "!", .str "?"], rfl, (show 2 ≤ sizeLine by decide), fun p1 => ?_⟩
          refine ⟨_, Pu.fr, ?_⟩
          refine EV.imp (P := fun δ r => ∃ (us4 : OW) (ix : Nat), Mint (n + 3 + 5 * i + 2) us4 ∧ ix < 2 ∧ r = .d (.int ix) ∧ δ = [.arg m us4, .d (.int count), .d (.lst (lines.map .str)), .d (.lst (words.map .str)), .d (.bl one), .d (.int way), .own p (.N k3e T.int mm), .d t, x2, x3, x4, x5, x6]) ?_ ?_
          · refine ev_ifx (et_or ?_)
            refine et_truth ?_
            walk_at "d"
            refine ⟨one, .bl _, ?_⟩
            have hand : ∃ ix : Nat, Builtin.bitAnd way 1 = ix ∧ ix < 2 := by
              have : way = 0 ∨ way = 1 ∨ way = 2 ∨ way = 3 ∨ way = 4 ∨ way = 5 := by omega
              rcases this with h | h | h | h | h | h <;> subst h <;> first | exact ⟨0, by decide, by decide⟩ | exact ⟨1, by decide, by decide⟩
            obtain ⟨ix, hix, hix2⟩ := hand
            refine ite2 (fun h => ?_) (fun h => ?_)
            · refine ite2 (fun h => ?_) (fun h => absurd rfl h)
              walk_at "d"
              refine o2_I0 (t := .int (Builtin.bitAnd way 1)) rfl ?_
              rw [hix]
              exact ⟨us3, ix, hm3.mono (by omega), hix2, rfl, rfl⟩
            · walk_at "d"
              refine ev_coin ?_
              walk_at "d"
              refine ⟨_, us3, n + 3 + 5 * i, 2, rfl, rfl, hm3, by omega, by decide, small (by decide), fun us4 r hm4 hr1 hr2 => ?_⟩
              walk_at "d"
              refine o2_eq (t := .int r) (u := .int 0) (d := .int r) (e := .int 0) (b := r == 0) rfl rfl rfl rfl rfl ?_
              refine ⟨_, rfl, ite2 (fun h => ?_) (fun h => ?_)⟩
              · walk_at "d"
                refine o2_I0 (t := .int (Builtin.bitAnd way 1)) rfl ?_
                rw [hix]
                exact ⟨us4, ix, hm4.mono (by omega), hix2, rfl, rfl⟩
              · refine ev_coin ?_
                walk_at "d"
                refine ⟨_, us4, n + 3 + 5 * i + 1, 2, rfl, rfl, hm4, by omega, by decide, small (by decide), fun us5 r2 hm5 hr3 hr4 => ?_⟩
                exact ⟨us5, r2.toNat, hm5, by omega, by rw [Int.toNat_of_nonneg hr3], rfl⟩
          · rintro δ r ⟨us4, ix, hm4, hix, rfl, rfl⟩
            walk_at "d"
            have hsg : ∃ sg : Str, atI [T.str "!", T.str "?"] (ix : Int) = some (.str sg) ∧ (sg = "!" ∨ sg = "?") := by
              have : ix = 0 ∨ ix = 1 := by omega
              rcases this with h | h <;> subst h
              · exact ⟨"!", rfl, .inl rfl⟩
              · exact ⟨"?", rfl, .inr rfl⟩
            obtain ⟨sg, hsg, hsg2⟩ := hsg
            refine uix_L LstV.d hsg ?_
            walk_at "d"
            refine ev_coin ?_
            walk_at "d"
            have hll : 0 < lines.length := List.length_pos_iff.mpr hl0
            have hwl : 0 < words.length := List.length_pos_iff.mpr hw0
            refine ⟨_, us4, n + 3 + 5 * i + 2, (lines.map T.str).length, rfl, rfl, hm4, by omega, by rw [List.length_map]; omega, small (by rw [List.length_map]; omega), fun us5 r2 hm5 hr3 hr4 => ?_⟩
            rw [List.length_map] at hr4
            walk_at "d"
            obtain ⟨r2, rfl⟩ := Int.eq_ofNat_of_zero_le hr3
            have hr4' : r2 < lines.length := by omega
            refine uix_L LstV.d (t := .str lines[r2]) (atI_nat (by simp [hr4'])) ?_
            walk_at "d"
            refine ev_coin ?_
            walk_at "d"
            refine ⟨_, us5, n + 3 + 5 * i + 3, (words.map T.str).length, rfl, rfl, hm5, by omega, by rw [List.length_map]; omega, small (by rw [List.length_map]; omega), fun us6 r3 hm6 hr5 hr6 => ?_⟩
            rw [List.length_map] at hr6
            walk_at "d"
            obtain ⟨r3, rfl⟩ := Int.eq_ofNat_of_zero_le hr5
            have hr6' : r3 < words.length := by omega
            refine uix_L LstV.d (t := .str words[r3]) (atI_nat (by simp [hr6'])) ?_
            walk_at "d"
            refine ⟨_, _, rfl, ?_⟩
            walk_at "d"
            refine ev_coin ?_
            walk_at "d"
            refine ⟨_, us6, n + 3 + 5 * i + 4, count, rfl, rfl, hm6, by omega, by omega, small (by omega), fun us7 r4 hm7 hr7 hr8 => ?_⟩
            walk_at "d"
            refine ⟨[.str sg, .str lines[r2], .str words[r3]], rfl, (show 3 ≤ sizeLine by decide), _, Pu.d, ?_⟩
            refine o3_N (ke := k3e) (ev := T.int) (k := (sg, lines[r2], words[r3])) (x := r4) (m := mm) 6 rfl (Nat.lt_of_le_of_lt (show mm.length ≤ 3 by omega) (by decide)) ?_
            have hlen := putM_len mm (sg, lines[r2], words[r3]) r4
            exact ⟨us7, putM mm (sg, lines[r2], words[r3]) r4, _, _, _, _, _, _, hm7.mono (by omega), hg.put hsg2 (hln _ (List.getElem_mem hr4')) (hwn _ (List.getElem_mem hr6')) hr7 (by omega), by omega, rfl⟩
        · rintro δ ⟨us3, mm, x1, x2, x3, x4, x5, x6, hm3, hg, hl, rfl⟩
          rw [List.length_map, List.length_range] at hm3 hl
          exact ⟨us3, mm, p, x1, x2, x3, x4, x5, x6, hm3.mono (by omega), hg, by omega, rfl⟩
    · rintro δ ⟨us2, mm, p, x1, x2, x3, x4, x5, x6, hm2, hg, hl, rfl⟩
      walk_at "d"
      refine ev_lock 6 rfl fun ob es => ?_
      refine ev_lcI (ei_itemsN ?_)
      walk_at "d"
      have e : pairT (mm.map fun p => k3e.ek p.1) (mm.map fun p => T.int p.2) = mm.map fun p => .tup [eK p.1, .int p.2] := pairT_map _ _ mm
      refine ⟨p, ob, es, _, _, rfl, ⟨6, .inl rfl⟩, by rw [e, List.length_map]; exact Nat.le_trans hl (by decide), fun i acc δ => acc = ((mm.take i).map mkS).map eS ∧ δ = [.arg m us2, .d (.int count), .d (.lst (lines.map .str)), .d (.lst (words.map .str)), .d (.bl one), .d (.int way), .own p (.lk ob es (mm.map fun p => k3e.ek p.1) (mm.map fun p => T.int p.2)), x1, x2, x3, x4, .no, .no], ⟨by simp, rfl⟩, ?_, ?_, ?_⟩
      · rintro i acc δ ⟨_, rfl⟩; exact ⟨6, .inl rfl⟩
      · rintro i t acc δ ht _ ⟨rfl, rfl⟩
        rw [e, List.getElem?_map] at ht
        obtain ⟨⟨⟨k1, k2, k3⟩, g⟩, hp, rfl⟩ := Option.map_eq_some_iff.mp ht
        unfold eK
        walk_at "d"
        refine ite2 (fun _ => ?_) (fun h => nomatch h)
        walk_at "d"
        refine ⟨[.str k1, .str k2, .str k3, .int g], rfl, (show 4 ≤ sizeLine by decide), ?_⟩
        walk_at "d"
        refine ⟨?_, rfl⟩
        rw [List.take_add_one, hp]; simp [mkS, eS]
      · rintro acc δ _ ⟨rfl, rfl⟩ p'
        rw [e, List.length_map, List.take_length]
        refine ⟨rfl, ?_⟩
        refine ⟨us2, rfl, hk us2 (mm.map mkS) (hm2.mono (by omega)) ⟨?_, ?_, ?_⟩ (by rw [List.length_map]; exact hl)⟩
        · rw [List.length_map]; exact Nat.lt_of_le_of_lt hl (by decide)
        · intro st hst
          obtain ⟨z, hz, rfl⟩ := List.mem_map.mp hst
          obtain ⟨h1, h2, h3, h4, h5⟩ := hg.2 z hz
          exact ⟨h1, h2, h3, h4, h5⟩
        · rw [List.map_map]; exact hg.1
end
end K

namespace K
open PySem L2 DL
local macro_rules | `(tactic| walk_at "dl") => `(tactic| with_reducible first
  | refine es_if ?_ | refine es_append ?_ | refine es_sub ?_ | refine es_par3 ?_ | refine es_parD ?_ | refine es_asg ?_ | refine es_ret ?_ | refine es_retN ?_ | refine es_next ?_ | refine es_drop ?_ | refine es_break ?_ | refine es_cont ?_
  | refine et_val ?_ | refine et_B ?_ | refine et_not ?_ | refine et_and ?_ | refine et_or ?_ | refine et_yes ?_
  | refine ev_op ?_ | refine ev_un ?_ | refine ev_cb ?_ | refine ev_tup ?_ | refine ev_lst ?_ | refine ev_ifx ?_ | refine ev_andV ?_ | refine ev_orV ?_ | refine ev_notV ?_ | refine ev_sl ?_
  | refine ea_cons ?_ | refine ea_nil ?_ | refine ev_int ?_ | refine ev_str ?_ | refine ev_bl ?_ | refine ev_non ?_ | refine eo_none ?_ | refine eo_some ?_
  | refine gts_cons ?_ | refine gts_nil ?_
  | refine o2_addI ?_ | refine o2_ltI ?_ | refine o2_leI ?_ | refine o2_gtI ?_ | refine o2_geI ?_ | refine o2_ltS ?_ | refine o2_leS ?_ | refine o2_gtS ?_ | refine o2_sub ?_
  | refine oa_intI ?_ | refine oa_intB ?_ | refine oa_abs ?_ | refine oa_two ?_ | refine ulen_R ?_ | refine ulen_T ?_ | refine ulen_L LstV.d ?_
  | (refine ⟨_, Pu.d, ?_⟩) | (refine ⟨_, Pu.ptr, ?_⟩) | (refine ⟨_, Pu.fr, ?_⟩))
local macro_rules | `(tactic| walk_at "dv") => `(tactic| first
  | refine ev_var (by rfl) ?_ | refine ev_ptr (.inl (by rfl)) ?_ | refine ev_ptr (.inr (.inl (by rfl))) ?_ | refine ev_ptr (.inr (.inr (by rfl))) ?_
  | refine uix_L (LstV.o ⟨0, .inr (by rfl)⟩) (by rfl) ?_ | refine uix_L LstV.d (by rfl) ?_ | refine uix_T (by rfl) ?_
  | refine gt_tup (by rfl) ?_ | refine gt_name (by first | exact all_in | simp) ?_ | refine ⟨_, rfl, ?_⟩)
local macro_rules | `(tactic| walk_at "e") => `(tactic| repeat (first | walk_at "dl" | walk_at "dv"))
local macro_rules | `(tactic| walk_at "d") => `(tactic| repeat (first | with_reducible refine es_seq ?_ | walk_at "dl" | walk_at "dv"))
section
variable {P : Program} {w : World} {K : PySem.W.Frag} {mg : Str → Option Value} {base : Heap}
abbrev s_law_plan_of : Stmt := topS 31
abbrev N_law_plan_of : List Str := ["mint", "most", "lines_here", "words_here", "one_sign", "count", "turn"]
theorem sc_law_plan_of : FnScope N_law_plan_of ["mint", "most", "lines_here", "words_here", "one_sign"] (defScope s_law_plan_of) := ⟨rfl, rfl, rfl, by decide +kernel, rfl, by decide +kernel, by decide +kernel⟩

def SPlanOf : OW → List T → (OW → RT → Prop) → Prop := fun us ts P => ∃ (n : Nat) (most : Nat) (lines words : List Str) (one : Bool), n + 3000 < 100000 ∧ Mint n us ∧ 0 < most ∧ most ≤ 100 ∧ lines ≠ [] ∧ words ≠ [] ∧ lines.length ≤ 100 ∧ words.length ≤ 100 ∧ (∀ x ∈ lines, IsName x) ∧ (∀ x ∈ words, IsName x) ∧
  ts = [.int most, .lst (lines.map .str), .lst (words.map .str), .bl one] ∧ ∀ us' (p : Plan), Mint (n + 1 + 20 * most) us' → GoodPlan p → p ≠ [] → p.length ≤ most → (∀ r ∈ p, r.length ≤ 3) → P us' (.new (.lst (p.map eRoom)))
theorem ok_plan_of {f : Addr} {fd : FuncData} (Fn : Fun K "_law_plan_of" "_law_plan_of" s_law_plan_of f fd) (TX : TXF mg) (C_law_coin : Cal P w K mg base CX0 "_law_coin" 1 ["mint", "many"] (spM ⟨P, w, K⟩ SCoin)) (C_law_room_steps : Cal P w K mg base CX0 "_law_room_steps" 2 ["mint", "count", "lines_here", "words_here", "one_sign"] (spM ⟨P, w, K⟩ SRoomSteps)) : FnOk P w K mg base CX0 3 f fd ["mint", "most", "lines_here", "words_here", "one_sign"] (spM ⟨P, w, K⟩ SPlanOf) := by
  refine Fn.ok sc_law_plan_of (fun vs H Q E h => ?_) (fun cdv A outer s H vs Q E hr h => ?_)
  · obtain ⟨F, m, ws, us, ts, rfl, _, _, _, hd, P, ⟨_, _, _, _, _, _, _, _, _, _, _, _, _, _, _, rfl, _⟩, _⟩ := h
    rw [List.length_cons, hd.length]; rfl
  · obtain ⟨F, m, ws, us, ts, rfl, fh, fm, hm, hd, PP, ⟨n, most, lines, words, one, hn, hmint, hc0, hc1, hl0, hw0, hl1, hw1, hln, hwn, rfl, hk⟩, q⟩ := h
    have hu := hr.units
    refine ⟨_, (pss_cons (ps_set (i := 5) sc_law_plan_of.nd rfl (Or.inr rfl) (pe_op (op_addB ⟨P, w, K⟩ rfl) pe_int (pe_call C_law_coin.ok (hr.mono (by decide)) (by rfl) C_law_coin.mg C_law_coin.kp C_law_coin.bd .nil pass0 (pa_cons (pv 0) (pa_cons (pv 1) pa_nil)))))
    (pss_one (ps_ret (pe_lc (own := [("turn", 6)]) (by rfl) sc_law_plan_of.nd (pi_range1 (by rfl) TX.n_range (pa_cons (pv 5) pa_nil)) (blkOk_by (N := N_law_plan_of) (sc := defScope s_law_plan_of) (by decide +kernel)) (fun _ _ _ _ _ => (pg_name (i := 6) sc_law_plan_of.nd rfl (Or.inl rfl))) (fun _ _ _ _ _ => pts_nil) (fun _ _ _ _ _ => (pe_call C_law_room_steps.ok (hr.mono (by decide)) (by rfl) C_law_room_steps.mg C_law_room_steps.kp C_law_room_steps.bd .nil pass0 (pa_cons (pv 0) (pa_cons (pv 5) (pa_cons (pv 2) (pa_cons (pv 3) (pa_cons (pv 4) pa_nil))))))))))), ?_⟩
    refine run_M (n := 2) fh fm hm hd rfl q ?_
    dsimp only [cxOf]
    walk_at "d"
    refine ev_coin ?_
    walk_at "d"
    refine ⟨_, us, n, most, rfl, rfl, hmint, by omega, by omega, small (by omega), fun us1 r hm1 hr1 hr2 => ?_⟩
    walk_at "d"
    obtain ⟨r, rfl⟩ := Int.eq_ofNat_of_zero_le hr1
    have hr2' : r < most := by omega
    refine ev_lcI (ei_R (ea_cons (ev_var (by rfl) ⟨_, Pu.d, ea_nil ?_⟩)))
    refine ⟨1 + r, rfl, by omega, by rw [List.length_map, List.length_range]; exact Nat.le_trans (show 1 + r ≤ 100 by omega) (by decide), fun i acc δ => ∃ (us2 : OW) (q : Plan), Mint (n + 1 + 20 * i) us2 ∧ acc = q.map eRoom ∧ q.length = i ∧ (∀ x ∈ q, GoodRoom (1 + r) x ∧ x.length ≤ 3) ∧ δ = [.arg m us2, .d (.int most), .d (.lst (lines.map .str)), .d (.lst (words.map .str)), .d (.bl one), .d (.int (1 + r : Nat)), .no], ⟨us1, [], hm1, rfl, rfl, (fun _ h => nomatch h), rfl⟩, fun _ _ _ _ => trivial, ?_, ?_⟩
    · rintro i t acc δ ht _ ⟨us2, qq, hm2, rfl, hlen, hgood, rfl⟩
      have hi : i < 1 + r := by
        have := (List.getElem?_eq_some_iff.mp ht).1
        simpa using this
      walk_at "d"
      refine ite2 (fun _ => ?_) (fun h => nomatch h)
      refine ev_callM ?_
      walk_at "d"
      refine ⟨_, [.int (1 + r : Nat), .lst (lines.map .str), .lst (words.map .str), .bl one], rfl, 0, us2, fun us' z => ∃ rm : Room, Mint (n + 1 + 20 * i + 20) us' ∧ GoodRoom (1 + r) rm ∧ rm.length ≤ 3 ∧ z = .new (.lst (rm.map eS)), ⟨n + 1 + 20 * i, 1 + r, lines, words, one, by omega, hm2, by omega, by omega, hl0, hw0, hl1, hw1, hln, hwn, rfl, fun us' rm h1 h2 h3 => ⟨rm, h1, h2, h3, rfl⟩⟩, .inr ⟨rfl, ?_⟩⟩
      rintro us' _ ⟨rm, h1, h2, h3, rfl⟩ a'
      refine ⟨_, Pu.fr, us', qq ++ [rm], h1.mono (by omega), by rw [List.map_append]; rfl, by rw [List.length_append, hlen]; rfl, fun x hx => ?_, rfl⟩
      rcases List.mem_append.mp hx with hx | hx
      · exact hgood x hx
      · rw [List.mem_singleton] at hx; subst hx; exact ⟨h2, h3⟩
    · rintro acc δ _ ⟨us2, qq, hm2, rfl, hlen, hgood, rfl⟩ p'
      rw [List.length_map, List.length_range] at hm2 hlen
      refine ⟨us2, rfl, hk us2 qq (hm2.mono (by omega)) ⟨?_, fun x hx => ?_⟩ ?_ (by omega) fun x hx => (hgood x hx).2⟩
      · rw [hlen]; exact Nat.lt_of_le_of_lt (show 1 + r ≤ 100 by omega) (by decide)
      · rw [hlen]; exact (hgood x hx).1
      · intro e; rw [e] at hlen; simp at hlen; omega
theorem sign_ok {x : Str} (h : x = "!" ∨ x = "?") : okT x := by
  rcases h with h | h
  · subst h; show PyData.strOk "!" = true; decide +kernel
  · subst h; show PyData.strOk "?" = true; decide +kernel
theorem GoodStep.ok {n : Int} {s : Stp} (h : GoodStep n s) : okS s := ⟨sign_ok h.1, h.2.1.ok, h.2.2.1.ok⟩
end
end K

namespace K
open PySem L2 DL
local macro_rules | `(tactic| walk_at "dl") => `(tactic| with_reducible first
  | refine es_if ?_ | refine es_append ?_ | refine es_sub ?_ | refine es_par3 ?_ | refine es_parD ?_ | refine es_asg ?_ | refine es_ret ?_ | refine es_retN ?_ | refine es_next ?_ | refine es_drop ?_ | refine es_break ?_ | refine es_cont ?_
  | refine et_val ?_ | refine et_B ?_ | refine et_not ?_ | refine et_and ?_ | refine et_or ?_ | refine et_yes ?_
  | refine ev_op ?_ | refine ev_un ?_ | refine ev_cb ?_ | refine ev_tup ?_ | refine ev_lst ?_ | refine ev_ifx ?_ | refine ev_andV ?_ | refine ev_orV ?_ | refine ev_notV ?_ | refine ev_sl ?_
  | refine ea_cons ?_ | refine ea_nil ?_ | refine ev_int ?_ | refine ev_str ?_ | refine ev_bl ?_ | refine ev_non ?_ | refine eo_none ?_ | refine eo_some ?_
  | refine gts_cons ?_ | refine gts_nil ?_
  | refine o2_addI ?_ | refine o2_ltI ?_ | refine o2_leI ?_ | refine o2_gtI ?_ | refine o2_geI ?_ | refine o2_ltS ?_ | refine o2_leS ?_ | refine o2_gtS ?_ | refine o2_sub ?_
  | refine oa_intI ?_ | refine oa_intB ?_ | refine oa_abs ?_ | refine oa_two ?_ | refine ulen_R ?_ | refine ulen_T ?_ | refine ulen_L LstV.d ?_
  | (refine ⟨_, Pu.d, ?_⟩) | (refine ⟨_, Pu.ptr, ?_⟩) | (refine ⟨_, Pu.fr, ?_⟩))
local macro_rules | `(tactic| walk_at "dv") => `(tactic| first
  | refine ev_var (by rfl) ?_ | refine ev_ptr (.inl (by rfl)) ?_ | refine ev_ptr (.inr (.inl (by rfl))) ?_ | refine ev_ptr (.inr (.inr (by rfl))) ?_
  | refine uix_L (LstV.o ⟨0, .inr (by rfl)⟩) (by rfl) ?_ | refine uix_L LstV.d (by rfl) ?_ | refine uix_T (by rfl) ?_
  | refine gt_tup (by rfl) ?_ | refine gt_name (by first | exact all_in | simp) ?_ | refine ⟨_, rfl, ?_⟩)
local macro_rules | `(tactic| walk_at "e") => `(tactic| repeat (first | walk_at "dl" | walk_at "dv"))
local macro_rules | `(tactic| walk_at "d") => `(tactic| repeat (first | with_reducible refine es_seq ?_ | walk_at "dl" | walk_at "dv"))
section
variable {P : Program} {w : World} {K : PySem.W.Frag} {mg : Str → Option Value} {base : Heap}
theorem map_inj {α β : Type} {f : α → β} (h : Function.Injective f) : ∀ a b : List α, a.map f = b.map f → a = b
  | [], [], _ => rfl
  | [], y :: ys, e => by cases e
  | x :: xs, [], e => by cases e
  | x :: xs, y :: ys, e => by
    rw [List.map_cons, List.map_cons] at e
    injection e with e1 e2
    rw [h e1, map_inj h xs ys e2]
/-- rooms as keys of dicts -/
def viewE : KeyEnc Room where
  ek := fun r => .tup (r.map eS)
  en := fun r => .tup (r.map fun s => .tup [.text s.1, .text s.2.1, .text s.2.2.1, .num s.2.2.2])
  nk := fun r => by
    have : ∀ r : Room, T.nks (r.map eS) = some (r.map fun s => .tup [.text s.1, .text s.2.1, .text s.2.2.1, .num s.2.2.2]) := by
      intro r
      induction r with
      | nil => rfl
      | cons s r ih => rw [List.map_cons, List.map_cons, T.nks, ih]; simp [eS, T.nk, T.nks]
    rw [T.nk, this]; rfl
  inj := fun a b h => by
    injection h with h
    have inj : Function.Injective (fun s : Stp => NestedKey.tup [.text s.1, .text s.2.1, .text s.2.2.1, .num s.2.2.2]) := by
      intro s t e
      injection e with e
      injection e with h1 e
      injection e with h2 e
      injection e with h3 e
      injection e with h4 _
      injection h1 with h1; injection h2 with h2; injection h3 with h3; injection h4 with h4
      exact Prod.ext h1 (Prod.ext h2 (Prod.ext h3 h4))
    exact map_inj inj a b h
  depth := fun r => by
    have : ∀ r : Room, NestedKey.depthAll (r.map fun s => .tup [.text s.1, .text s.2.1, .text s.2.2.1, .num s.2.2.2]) ≤ 1 := by
      intro r
      induction r with
      | nil => simp [NestedKey.depthAll]
      | cons s r ih => rw [List.map_cons, NestedKey.depthAll]; exact Nat.max_le.mpr ⟨by simp [NestedKey.depth, NestedKey.depthAll], ih⟩
    rw [NestedKey.depth]; have := this r; omega
  tup := fun a => ⟨_, rfl⟩
abbrev s_split_groups : Stmt := topS 10
abbrev N_split_groups : List Str := ["rooms", "groups", "views", "numbers", "view", "steps", "sign", "line", "word", "room"]
theorem sc_split_groups : FnScope N_split_groups ["rooms", "groups"] (defScope s_split_groups) := ⟨rfl, rfl, rfl, by decide +kernel, rfl, by decide +kernel, by decide +kernel⟩

/-- a room's steps with the groups of the rooms that they lead to -/
def view (gs : List Int) (r : Room) : Room := r.map fun s => (s.1, s.2.1, s.2.2.1, (gs[(goalOf s).toNat]?).getD 0)
def numStep (m : List (Room × Int)) (v : Room) : List (Room × Int) := if (getM m v).isSome then m else putM m v m.length
def nums (vs : List Room) : List (Room × Int) := vs.foldl numStep []
def splitG (p : Plan) (gs : List Int) : List Int := (p.map (view gs)).map fun v => (getM (nums (p.map (view gs))) v).getD 0
theorem num_len : ∀ (vs : List Room) (m : List (Room × Int)), (vs.foldl numStep m).length ≤ m.length + vs.length
  | [], m => by simp
  | v :: vs, m => by
    rw [List.foldl_cons, List.length_cons]
    have h1 := num_len vs (numStep m v)
    have h2 : (numStep m v).length ≤ m.length + 1 := by
      unfold numStep; split
      · omega
      · exact putM_len _ _ _
    omega
theorem num_keep {m : List (Room × Int)} {v k : Room} (h : (getM m k).isSome = true) : (getM (numStep m v) k).isSome = true := by
  unfold numStep; split
  · exact h
  · rw [getM_put]; split
    · rfl
    · exact h
theorem num_keeps : ∀ (vs : List Room) (m : List (Room × Int)) {k : Room}, (getM m k).isSome = true → (getM (vs.foldl numStep m) k).isSome = true
  | [], m, k, h => h
  | v :: vs, m, k, h => num_keeps vs _ (num_keep h)
theorem num_has : ∀ (vs : List Room) (m : List (Room × Int)) {v : Room}, v ∈ vs → (getM (vs.foldl numStep m) v).isSome = true
  | x :: vs, m, v, h => by
    rw [List.foldl_cons]
    rcases List.mem_cons.mp h with h | h
    · subst h
      refine num_keeps vs _ ?_
      unfold numStep; split
      · assumption
      · rw [getM_put, if_pos rfl]; rfl
    · exact num_has vs _ h
theorem nums_take {vs : List Room} {i : Nat} {v : Room} (h : vs[i]? = some v) : nums (vs.take (i + 1)) = numStep (nums (vs.take i)) v := by
  unfold nums; rw [List.take_add_one, h]; simp
def SSplit : List T → (RT → Prop) → Prop := fun ts P => ∃ (p : Plan) (gs : List Int), gs.length = p.length ∧ p.length < sizeLine ∧ (∀ r ∈ p, r.length < sizeLine ∧ ∀ s ∈ r, 0 ≤ goalOf s ∧ goalOf s < p.length) ∧ ts = [ePlan p, .lst (gs.map T.int)] ∧ P (.new (.lst ((splitG p gs).map T.int)))
theorem ok_split {f : Addr} {fd : FuncData} (Fn : Fun K "split_groups" "split_groups" s_split_groups f fd) (TX : TXF mg) : FnOk P w K mg base CX0 1 f fd ["rooms", "groups"] (spP ⟨P, w, K⟩ SSplit) := by
  refine Fn.ok sc_split_groups (fun vs H Q E h => ?_) (fun cdv A outer s H vs Q E hr h => ?_)
  · obtain ⟨F, ts, _, hd, P, ⟨_, _, _, _, _, rfl, _⟩, _⟩ := h
    rw [hd.length]; rfl
  · obtain ⟨F, ts, fh, hd, PP, ⟨p, gs, hl, hp1, hp2, rfl, hk⟩, q⟩ := h
    have hu := hr.units
    refine ⟨_, (pss_cons (ps_setLc (i := 2) (own := [("steps", 5)]) (by rfl) sc_split_groups.nd rfl rfl (sw_true rfl rfl rfl (by decide +kernel)) (pi_listB ⟨P, w, K⟩ rfl (pv 0)) (blkOk_by (N := N_split_groups) (sc := defScope s_split_groups) (by decide +kernel)) (fun _ _ _ _ _ => (pg_name (i := 5) sc_split_groups.nd rfl (Or.inl rfl))) (fun _ _ _ _ _ => pts_nil) (fun _ _ _ _ _ => (pe_callTy (call_tupleB ⟨P, w, K⟩ rfl) (by rfl) TX.n_tuple (by decide +kernel) (pa_cons (pe_lc (own := [("sign", 6), ("line", 7), ("word", 8), ("room", 9)]) (by rfl) sc_split_groups.nd (pi_listB ⟨P, w, K⟩ rfl (pv 5)) (blkOk_by (N := N_split_groups) (sc := _) (by rfl)) (fun _ _ _ _ _ => (pg_tupB ⟨P, w, K⟩ rfl 4 rfl (pgs_cons (pg_name (i := 6) sc_split_groups.nd rfl (Or.inl rfl)) (pgs_cons (pg_name (i := 7) sc_split_groups.nd rfl (Or.inl rfl)) (pgs_cons (pg_name (i := 8) sc_split_groups.nd rfl (Or.inl rfl)) (pgs_cons (pg_name (i := 9) sc_split_groups.nd rfl (Or.inl rfl)) pgs_nil)))))) (fun _ _ _ _ _ => pts_nil) (fun _ _ _ _ _ => (pe_tup (pa_cons (pv 6) (pa_cons (pv 7) (pa_cons (pv 8) (pa_cons (pe_ix (ix_B ⟨P, w, K⟩ rfl hu) (pv 1) (pv 9) (fun _ _ => rfl)) pa_nil))))))) pa_nil))))
    (pss_cons (ps_set (i := 3) sc_split_groups.nd rfl (Or.inr rfl) pe_dnewN)
    (pss_cons (ps_for PassesOwn.never rfl (pi_listB ⟨P, w, K⟩ rfl (pv 2)) (pg_name (i := 4) sc_split_groups.nd rfl (Or.inl rfl)) (pss_one (ps_if (pt_cmpR (op_notInB ⟨P, w, K⟩ rfl hu) (pv 4) (pv 3) (by with_unfolding_all rfl)) (pss_one (ps_asg (pe_callB (call_lenB ⟨P, w, K⟩ rfl hu) (by rfl) TX.n_len (by decide +kernel) (pa_cons (pv 3) pa_nil)) (pg_sub (pv 3) (pv 4) (set_B ⟨P, w, K⟩ rfl hu)))) pss_nil)))
    (pss_one (ps_ret (pe_lc (own := [("view", 4)]) (by rfl) sc_split_groups.nd (pi_listB ⟨P, w, K⟩ rfl (pv 2)) (blkOk_by (N := N_split_groups) (sc := defScope s_split_groups) (by decide +kernel)) (fun _ _ _ _ _ => (pg_name (i := 4) sc_split_groups.nd rfl (Or.inl rfl))) (fun _ _ _ _ _ => pts_nil) (fun _ _ _ _ _ => (pe_ix (ix_B ⟨P, w, K⟩ rfl hu) (pv 3) (pv 4) (fun _ _ => rfl))))))))), ?_⟩
    refine run_P (n := 8) fh hd rfl q ?_
    dsimp only [cxOf]
    refine es_seq ?_
    walk_at "e"
    refine ev_lcI (ei_L ?_)
    walk_at "e"
    refine ⟨by rw [List.length_map]; omega, fun i acc δ => acc = ((p.take i).map (view gs)).map (fun r => T.tup (r.map eS)) ∧ δ = [.d (ePlan p), .d (.lst (gs.map T.int)), .no, .no, .no, .no, .no, .no, .no, .no], ⟨by simp, rfl⟩, fun _ _ _ _ => trivial, ?_, ?_⟩
    · rintro i t acc δ ht _ ⟨rfl, rfl⟩
      rw [List.getElem?_map] at ht
      obtain ⟨r, hr', rfl⟩ := Option.map_eq_some_iff.mp ht
      have hgr := hp2 r (List.mem_of_getElem? hr')
      walk_at "d"
      refine ite2 (fun _ => ?_) (fun h => nomatch h)
      walk_at "d"
      refine ev_lcI (ei_L ?_)
      walk_at "d"
      refine ⟨by rw [List.length_map]; exact Nat.le_of_lt hgr.1, fun j acc δ => acc = (view gs (r.take j)).map eS ∧ δ = [.d (ePlan p), .d (.lst (gs.map T.int)), .no, .no, .no, .d (eRoom r), .no, .no, .no, .no], ⟨rfl, rfl⟩, fun _ _ _ _ => trivial, ?_, ?_⟩
      · rintro j t acc δ ht _ ⟨rfl, rfl⟩
        rw [List.getElem?_map] at ht
        obtain ⟨⟨s1, s2, s3, s4⟩, hst, rfl⟩ := Option.map_eq_some_iff.mp ht
        have hs := hgr.2 _ (List.mem_of_getElem? hst)
        have hs1 : 0 ≤ s4 := hs.1
        have hs2 : s4 < p.length := hs.2
        obtain ⟨g, rfl⟩ := Int.eq_ofNat_of_zero_le hs1
        have hg : g < gs.length := by omega
        unfold eS
        dsimp only
        walk_at "d"
        refine ite2 (fun _ => ?_) (fun h => nomatch h)
        walk_at "d"
        refine uix_L LstV.d (ts := gs.map T.int) (t := .int gs[g]) (atI_nat (by simp [hg])) ?_
        walk_at "d"
        refine ⟨[.str s1, .str s2, .str s3, .int gs[g]], rfl, (show 4 ≤ sizeLine by decide), ?_⟩
        walk_at "d"
        refine ⟨?_, rfl⟩
        rw [List.take_add_one, hst]; simp [view, eS, goalOf, hg]
      · rintro acc δ _ ⟨rfl, rfl⟩ p2
        rw [List.length_map, List.take_length]
        walk_at "d"
        refine oa_tuple LstV.d ?_
        refine ⟨_, Pu.d, ?_, rfl⟩
        rw [List.take_add_one, hr']; simp
    · rintro acc δ _ ⟨rfl, rfl⟩ p'
      rw [List.length_map, List.take_length]
      walk_at "e"
      refine es_seq ?_
      walk_at "e"
      refine ev_newN viewE T.int fun p2 => ?_
      walk_at "e"
      have hvl : ((p.map (view gs)).map fun r => T.tup (r.map eS)).length = p.length := by simp
      refine es_seqJ (fun δ => ∃ x, δ = [.d (ePlan p), .d (.lst (gs.map T.int)), .own p' (.lst ((p.map (view gs)).map fun r => T.tup (r.map eS))), .own p2 (.N viewE T.int (nums (p.map (view gs)))), x, .no, .no, .no, .no, .no]) ?_ ?_
      · refine es_forI (ei_O ?_)
        walk_at "e"
        refine ⟨p', _, rfl, ⟨2, .inl rfl⟩, fun i δ => ∃ x, δ = [.d (ePlan p), .d (.lst (gs.map T.int)), .own p' (.lst ((p.map (view gs)).map fun r => T.tup (r.map eS))), .own p2 (.N viewE T.int (nums ((p.map (view gs)).take i))), x, .no, .no, .no, .no, .no], ⟨_, rfl⟩, ?_, ?_, ?_⟩
        · rintro i δ ⟨x, rfl⟩; exact ⟨2, .inl rfl⟩
        · rintro i t δ ht ⟨x, rfl⟩
          rw [List.getElem?_map] at ht
          obtain ⟨v, hv, rfl⟩ := Option.map_eq_some_iff.mp ht
          have htk := nums_take hv
          have hnl := num_len ((p.map (view gs)).take i) []
          have hnl2 : ((p.map (view gs)).take i).length ≤ p.length := by rw [List.length_take, List.length_map]; omega
          have hnl3 : (nums ((p.map (view gs)).take i)).length < sizeLine := by unfold nums; simp only [List.length_nil] at hnl; omega
          walk_at "d"
          refine uni_N (ke := viewE) (ev := T.int) (k := v) (m := nums ((p.map (view gs)).take i)) (DctV.o ⟨3, .inl rfl⟩) ?_
          refine ⟨_, rfl, ?_⟩
          cases hs : (getM (nums ((p.map (view gs)).take i)) v).isSome with
          | true =>
            refine ite2 (fun h => nomatch h) (fun _ => ?_)
            walk_at "d"
            refine ⟨.d (viewE.ek v), ?_⟩
            rw [htk]; unfold numStep; rw [if_pos hs]
            rfl
          | false =>
            refine ite2 (fun _ => ?_) (fun h => absurd rfl h)
            walk_at "d"
            refine ulen_N (ke := viewE) (ev := T.int) (m := nums ((p.map (view gs)).take i)) (DctV.o ⟨3, .inl rfl⟩) ?_
            walk_at "d"
            refine o3_N (ke := viewE) (ev := T.int) (k := v) (x := ((nums ((p.map (view gs)).take i)).length : Int)) (m := nums ((p.map (view gs)).take i)) 3 rfl hnl3 ?_
            refine ⟨.d (viewE.ek v), ?_⟩
            rw [htk]; unfold numStep; rw [if_neg (by rw [hs]; decide)]
            rfl
        · rintro δ ⟨x, rfl⟩
          rw [List.length_map, List.take_length]
          exact ⟨x, rfl⟩
      · rintro δ ⟨x, rfl⟩
        walk_at "e"
        refine ev_lcI (ei_O ?_)
        walk_at "e"
        refine ⟨p', _, rfl, ⟨2, .inl rfl⟩, by rw [hvl]; omega, fun i acc δ => acc = (((p.map (view gs)).take i).map fun v => (getM (nums (p.map (view gs))) v).getD 0).map T.int ∧ δ = [.d (ePlan p), .d (.lst (gs.map T.int)), .own p' (.lst ((p.map (view gs)).map fun r => T.tup (r.map eS))), .own p2 (.N viewE T.int (nums (p.map (view gs)))), .no, .no, .no, .no, .no, .no], ⟨by simp, rfl⟩, ?_, ?_, ?_⟩
        · rintro i acc δ ⟨_, rfl⟩; exact ⟨2, .inl rfl⟩
        · rintro i t acc δ ht _ ⟨rfl, rfl⟩
          rw [List.getElem?_map] at ht
          obtain ⟨v, hv, rfl⟩ := Option.map_eq_some_iff.mp ht
          obtain ⟨b, hb⟩ := Option.isSome_iff_exists.mp (num_has (p.map (view gs)) [] (List.mem_of_getElem? hv))
          walk_at "d"
          refine ite2 (fun _ => ?_) (fun h => nomatch h)
          walk_at "d"
          refine uix_N (ke := viewE) (ev := T.int) (k := v) (m := nums (p.map (view gs))) (DctV.o ⟨3, .inl rfl⟩) hb ?_
          refine ⟨_, Pu.d, ?_, rfl⟩
          have hb' : getM (nums (p.map (view gs))) v = some b := hb
          rw [List.take_add_one, hv]; simp [hb']
        · rintro acc δ _ ⟨rfl, rfl⟩ p3
          rw [List.length_map, List.take_length]
          exact hk
end
end K

namespace K
open PySem L2 DL
theorem snoc_ind {α : Type} {p : List α → Prop} (h0 : p []) (h1 : ∀ l a, p l → p (l ++ [a])) (l : List α) : p l := by
  have : ∀ l : List α, p l.reverse := fun l => by
    induction l with
    | nil => exact h0
    | cons a l ih => rw [List.reverse_cons]; exact h1 _ _ ih
  have := this l.reverse
  rwa [List.reverse_reverse] at this
section
variable {α β ι : Type} [DecidableEq α] [DecidableEq β]
/-- first occurrences -/
def dst (vs : List α) : List α := vs.foldl (fun d v => if v ∈ d then d else d ++ [v]) []
theorem dst_snoc (vs : List α) (v : α) : dst (vs ++ [v]) = if v ∈ dst vs then dst vs else dst vs ++ [v] := by unfold dst; rw [List.foldl_append]; rfl
theorem mem_dst (vs : List α) : ∀ v, v ∈ dst vs ↔ v ∈ vs := by
  refine snoc_ind (p := fun vs => ∀ v, v ∈ dst vs ↔ v ∈ vs) (by simp [dst]) (fun l a ih v => ?_) vs
  rw [dst_snoc]
  split
  · rename_i h
    rw [ih, List.mem_append, List.mem_singleton]
    exact ⟨.inl, fun q => q.elim id fun e => by subst e; exact (ih v).mp h⟩
  · rw [List.mem_append, List.mem_append, ih]
theorem dst_nodup (vs : List α) : (dst vs).Nodup := by
  refine snoc_ind (p := fun vs => (dst vs).Nodup) (by simp [dst]) (fun l a ih => ?_) vs
  rw [dst_snoc]
  split
  · exact ih
  · rename_i h
    rw [List.nodup_append]
    exact ⟨ih, by simp, fun x hx y hy e => by simp at hy; subst hy; subst e; exact h hx⟩
theorem dst_len (vs : List α) : (dst vs).length ≤ vs.length := by
  refine snoc_ind (p := fun vs => (dst vs).length ≤ vs.length) (by simp [dst]) (fun l a ih => ?_) vs
  rw [dst_snoc, List.length_append, List.length_singleton]
  split
  · omega
  · rw [List.length_append, List.length_singleton]; omega
theorem dst_app (xs : List α) : ∀ ys, ∃ zs, dst (xs ++ ys) = dst xs ++ zs := by
  refine snoc_ind ⟨[], by simp⟩ (fun l a ⟨zs, ih⟩ => ?_)
  rw [← List.append_assoc, dst_snoc]
  split
  · exact ⟨zs, ih⟩
  · exact ⟨zs ++ [a], by rw [ih, List.append_assoc]⟩
theorem dst_inj {f : α → β} (hf : ∀ a b, f a = f b → a = b) (vs : List α) : dst (vs.map f) = (dst vs).map f := by
  refine snoc_ind (p := fun vs => dst (vs.map f) = (dst vs).map f) (by simp [dst]) (fun l a ih => ?_) vs
  rw [List.map_append, List.map_cons, List.map_nil, dst_snoc, dst_snoc, ih]
  by_cases h : a ∈ dst l
  · rw [if_pos h, if_pos (List.mem_map_of_mem h)]
  · rw [if_neg h, if_neg, List.map_append, List.map_cons, List.map_nil]
    intro q
    obtain ⟨b, hb, e⟩ := List.mem_map.mp q
    rw [hf _ _ e] at hb; exact h hb
/-- injective on what is there -/
theorem dst_injOn {f : α → β} (vs : List α) (hf : ∀ a ∈ vs, ∀ b ∈ vs, f a = f b → a = b) : dst (vs.map f) = (dst vs).map f := by
  revert hf
  refine snoc_ind (p := fun vs => (∀ a ∈ vs, ∀ b ∈ vs, f a = f b → a = b) → dst (vs.map f) = (dst vs).map f) (fun _ => by simp [dst]) (fun l a ih hf => ?_) vs
  have ih := ih fun x hx y hy => hf x (List.mem_append_left _ hx) y (List.mem_append_left _ hy)
  rw [List.map_append, List.map_cons, List.map_nil, dst_snoc, dst_snoc, ih]
  by_cases h : a ∈ dst l
  · rw [if_pos h, if_pos (List.mem_map_of_mem h)]
  · rw [if_neg h, if_neg, List.map_append, List.map_cons, List.map_nil]
    intro q
    obtain ⟨b, hb, e⟩ := List.mem_map.mp q
    have hb' := (mem_dst l b).mp hb
    have := hf b (List.mem_append_left _ hb') a (by simp) e
    subst this; exact h hb
/-- a finer partition has no fewer classes; with no more it is the same -/
theorem refine_cnt {f : ι → α} {g : ι → β} : ∀ l : List ι, (∀ i ∈ l, ∀ j ∈ l, f i = f j → g i = g j) → (dst (l.map g)).length ≤ (dst (l.map f)).length ∧ ((dst (l.map f)).length ≤ (dst (l.map g)).length → ∀ i ∈ l, ∀ j ∈ l, g i = g j → f i = f j) := by
  refine snoc_ind (fun _ => ⟨Nat.le_refl _, fun _ i h => nomatch h⟩) (fun l a ih h => ?_)
  obtain ⟨h1, h2⟩ := ih fun i hi j hj => h i (List.mem_append_left _ hi) j (List.mem_append_left _ hj)
  have ha : a ∈ l ++ [a] := by simp
  rw [List.map_append, List.map_append, List.map_cons, List.map_nil, List.map_cons, List.map_nil, dst_snoc, dst_snoc]
  by_cases hg : g a ∈ dst (l.map g)
  · rw [if_pos hg]
    by_cases hf : f a ∈ dst (l.map f)
    · rw [if_pos hf]
      refine ⟨h1, fun q => ?_⟩
      have h2 := h2 q
      obtain ⟨k, hk, ek⟩ := List.mem_map.mp ((mem_dst _ _).mp hf)
      have hga := h k (List.mem_append_left _ hk) a ha ek
      have red : ∀ j ∈ l, g a = g j → f a = f j := fun j hj e => by rw [← ek]; exact h2 k hk j hj (hga.trans e)
      intro i hi j hj e
      rcases List.mem_append.mp hi with xi | xi <;> rcases List.mem_append.mp hj with xj | xj
      · exact h2 i xi j xj e
      · rw [List.mem_singleton] at xj; subst xj; exact (red i xi e.symm).symm
      · rw [List.mem_singleton] at xi; subst xi; exact red j xj e
      · rw [List.mem_singleton] at xi xj; subst xi; subst xj; rfl
    · rw [if_neg hf, List.length_append, List.length_singleton]
      exact ⟨by omega, fun q => by omega⟩
  · rw [if_neg hg]
    have hf : f a ∉ dst (l.map f) := fun q => by
      obtain ⟨k, hk, ek⟩ := List.mem_map.mp ((mem_dst _ _).mp q)
      refine hg ((mem_dst _ _).mpr ?_)
      rw [← h k (List.mem_append_left _ hk) a ha ek]
      exact List.mem_map_of_mem hk
    rw [if_neg hf, List.length_append, List.length_append, List.length_singleton, List.length_singleton]
    refine ⟨by omega, fun q => ?_⟩
    have h2 := h2 (by omega)
    intro i hi j hj e
    rcases List.mem_append.mp hi with xi | xi <;> rcases List.mem_append.mp hj with xj | xj
    · exact h2 i xi j xj e
    · rw [List.mem_singleton] at xj; subst xj
      exact absurd ((mem_dst _ _).mpr (by rw [← e]; exact List.mem_map_of_mem xi)) hg
    · rw [List.mem_singleton] at xi; subst xi
      exact absurd ((mem_dst _ _).mpr (by rw [e]; exact List.mem_map_of_mem xj)) hg
    · rw [List.mem_singleton] at xi xj; subst xi; subst xj; rfl
/-- distinct things, numbered, as a dict -/
def numD (d : List α) : List (α × Int) := d.zipIdx.map fun p => (p.1, (p.2 : Int))
theorem numD_snoc (d : List α) (v : α) : numD (d ++ [v]) = numD d ++ [(v, (d.length : Int))] := by
  unfold numD; rw [List.zipIdx_append]; simp
theorem numD_len (d : List α) : (numD d).length = d.length := by simp [numD]
theorem getM_app {m m' : List (α × β)} {a : α} : getM (m ++ m') a = (getM m a).or (getM m' a) := by
  induction m with
  | nil => simp [getM]
  | cons p m ih =>
    obtain ⟨x, y⟩ := p
    rw [List.cons_append, getM, getM]
    split <;> simp [ih]
theorem getM_numD (d : List α) : ∀ v, getM (numD d) v = if v ∈ d then some (d.idxOf v : Int) else none := by
  refine snoc_ind (p := fun d => ∀ v, getM (numD d) v = if v ∈ d then some (d.idxOf v : Int) else none) (fun v => by simp [numD, getM]) (fun l a ih v => ?_) d
  rw [numD_snoc, getM_app, ih, List.idxOf_append]
  by_cases h : v ∈ l
  · simp [h]
  · simp only [h, if_false, List.mem_append, List.mem_singleton, false_or, Option.none_or, getM]
    by_cases e : a = v
    · subst e; simp
    · simp [e, Ne.symm e]
theorem num_step (vs : List α) (v : α) : (if (getM (numD (dst vs)) v).isSome then numD (dst vs) else putM (numD (dst vs)) v (numD (dst vs)).length) = numD (dst (vs ++ [v])) := by
  rw [dst_snoc, getM_numD]
  by_cases h : v ∈ dst vs
  · simp [h]
  · have e : getM (numD (dst vs)) v = none := by rw [getM_numD, if_neg h]
    rw [if_neg h, if_neg h, numD_snoc, numD_len]
    simp [putM, e]
end
/-- the number of a thing -/
def posG {α : Type} [DecidableEq α] (vs : List α) (v : α) : Int := ((dst vs).idxOf v : Nat)
theorem posG_inj {α : Type} [DecidableEq α] {vs : List α} {a b : α} (ha : a ∈ vs) (h : posG vs a = posG vs b) : a = b := by
  unfold posG at h
  have h : (dst vs).idxOf a = (dst vs).idxOf b := by omega
  have ha' := (mem_dst vs a).mpr ha
  have l1 := List.idxOf_lt_length_iff.mpr ha'
  have e1 : (dst vs)[(dst vs).idxOf a] = a := List.getElem_idxOf l1
  have l2 : (dst vs).idxOf b < (dst vs).length := by rw [← h]; exact l1
  have e2 : (dst vs)[(dst vs).idxOf b] = b := List.getElem_idxOf l2
  rw [← e1, ← e2]
  simp only [h]
theorem posG_max {α : Type} [DecidableEq α] {vs : List α} (h : vs ≠ []) : ∃ v ∈ vs, posG vs v = ((dst vs).length : Int) - 1 := by
  obtain ⟨v, hv⟩ := List.exists_mem_of_ne_nil _ h
  have l1 := List.idxOf_lt_length_iff.mpr ((mem_dst _ _).mpr hv)
  have hl : (dst vs).length - 1 < (dst vs).length := by omega
  refine ⟨(dst vs)[(dst vs).length - 1], (mem_dst _ _).mp (List.getElem_mem hl), ?_⟩
  unfold posG
  rw [(dst_nodup _).idxOf_getElem]
  omega
theorem posG_lt {α : Type} [DecidableEq α] {vs : List α} {v : α} (h : v ∈ vs) : 0 ≤ posG vs v ∧ posG vs v < (dst vs).length := by
  have l1 := List.idxOf_lt_length_iff.mpr ((mem_dst _ _).mpr h)
  unfold posG; omega
theorem getM_pos {α : Type} [DecidableEq α] {vs : List α} {v : α} (h : v ∈ vs) : getM (numD (dst vs)) v = some (posG vs v) := by
  rw [getM_numD, if_pos ((mem_dst _ _).mpr h)]; rfl
/-! ### the groups -/
theorem nums_dst (vs : List Room) : nums vs = numD (dst vs) := by
  refine snoc_ind (p := fun vs => nums vs = numD (dst vs)) rfl (fun l a ih => ?_) vs
  rw [← num_step, ← ih]
  unfold nums
  rw [List.foldl_append]
  rfl
abbrev pos (vs : List Room) (v : Room) : Int := posG vs v
theorem splitG_eq (p : Plan) (gs : List Int) : splitG p gs = p.map fun r => pos (p.map (view gs)) (view gs r) := by
  unfold splitG
  rw [List.map_map]
  refine List.map_congr_left fun r hr => ?_
  show (getM (nums _) _).getD 0 = _
  rw [nums_dst, getM_pos (List.mem_map_of_mem hr)]
  rfl
theorem pos_inj {vs : List Room} {a b : Room} (ha : a ∈ vs) (h : pos vs a = pos vs b) : a = b := posG_inj ha h
/-- the greatest number is one less than the number of classes -/
def MaxOk (gs : List Int) : Prop := ∀ m, m ∈ gs → (∀ y ∈ gs, y ≤ m) → m + 1 = (dst gs).length
theorem split_dst (p : Plan) (gs : List Int) : (dst (splitG p gs)).length = (dst (p.map (view gs))).length := by
  rw [splitG_eq]
  have e : (p.map fun r => pos (p.map (view gs)) (view gs r)) = (p.map (view gs)).map (pos (p.map (view gs))) := by rw [List.map_map]; rfl
  rw [e, dst_injOn _ fun a ha b _ h => pos_inj ha h, List.length_map]
theorem split_max (p : Plan) (gs : List Int) : MaxOk (splitG p gs) := fun m hm hall => by
  rw [split_dst]
  rw [splitG_eq] at hm hall
  obtain ⟨r, hr, rfl⟩ := List.mem_map.mp hm
  have hv : view gs r ∈ p.map (view gs) := List.mem_map_of_mem hr
  obtain ⟨v, hv2, e⟩ := posG_max (List.ne_nil_of_mem hv)
  obtain ⟨r2, hr2, rfl⟩ := List.mem_map.mp hv2
  have h2 := hall _ (List.mem_map_of_mem hr2)
  have h3 := posG_lt hv
  unfold pos at h2 ⊢
  omega
theorem max_same {gs : List Int} (h : MaxOk gs) {m : Int} (hm : m ∈ gs) (hall : ∀ y ∈ gs, y ≤ m) : m + 1 = (dst gs).length := h m hm hall
theorem zero_max (n : Nat) (h : 0 < n) : MaxOk (List.replicate n 0) := fun m hm _ => by
  have hm := List.eq_of_mem_replicate hm
  subst hm
  have : ∀ k, dst (List.replicate (k + 1) (0 : Int)) = [0] := fun k => by
    induction k with
    | zero => simp [dst]
    | succ k ih => rw [List.replicate_succ', dst_snoc, ih]; simp
  obtain ⟨k, rfl⟩ : ∃ k, n = k + 1 := ⟨n - 1, by omega⟩
  rw [this]; rfl
/-- rooms that lead to rooms, in p with n rooms -/
def Tgt (p : Plan) : Prop := ∀ r ∈ p, ∀ s ∈ r, 0 ≤ goalOf s ∧ goalOf s < p.length
def gAt (gs : List Int) (j : Int) : Int := (gs[j.toNat]?).getD 0
theorem view_gAt (gs : List Int) (r : Room) : view gs r = r.map fun s => (s.1, s.2.1, s.2.2.1, gAt gs (goalOf s)) := rfl
/-- the groups h are finer than g on the rooms -/
def Finer (n : Nat) (h g : List Int) : Prop := ∀ i < n, ∀ j < n, gAt h i = gAt h j → gAt g i = gAt g j
theorem gAt_split {p : Plan} {gs : List Int} {i : Nat} (hi : i < p.length) : gAt (splitG p gs) i = pos (p.map (view gs)) (view gs p[i]) := by
  rw [splitG_eq]; unfold gAt; simp [hi]
theorem split_view {p : Plan} {gs : List Int} {i j : Nat} (hi : i < p.length) (hj : j < p.length) : gAt (splitG p gs) i = gAt (splitG p gs) j ↔ view gs p[i] = view gs p[j] := by
  rw [gAt_split hi, gAt_split hj]
  exact ⟨pos_inj (List.mem_map_of_mem (List.getElem_mem hi)), fun h => by rw [h]⟩
theorem view_finer {p : Plan} (ht : Tgt p) {h g : List Int} (f : Finer p.length h g) {r r' : Room} (hr : r ∈ p) (hr' : r' ∈ p) (e : view h r = view h r') : view g r = view g r' := by
  have ht1 := ht r hr
  have ht2 := ht r' hr'
  clear hr hr'
  rw [view_gAt, view_gAt] at e ⊢
  induction r generalizing r' with
  | nil => cases r' with
    | nil => rfl
    | cons s r' => simp at e
  | cons s r ih => cases r' with
    | nil => simp at e
    | cons s' r' =>
      rw [List.map_cons, List.map_cons] at e ⊢
      injection e with e1 e2
      injection e1 with a1 e1
      injection e1 with a2 e1
      injection e1 with a3 a4
      rw [ih e2 (fun s hs => ht1 s (List.mem_cons_of_mem _ hs)) (fun s hs => ht2 s (List.mem_cons_of_mem _ hs)), a1, a2, a3]
      have b1 := ht1 s List.mem_cons_self
      have b2 := ht2 s' List.mem_cons_self
      have q := f (goalOf s).toNat (by omega) (goalOf s').toNat (by omega) (by rw [Int.toNat_of_nonneg b1.1, Int.toNat_of_nonneg b2.1]; exact a4)
      rw [Int.toNat_of_nonneg b1.1, Int.toNat_of_nonneg b2.1] at q
      rw [q]
theorem split_finer {p : Plan} (ht : Tgt p) {gs : List Int} (f : Finer p.length (splitG p gs) gs) : Finer p.length (splitG p (splitG p gs)) (splitG p gs) := fun i hi j hj e => by
  rw [split_view hi hj] at e
  rw [split_view hi hj]
  exact view_finer ht f (List.getElem_mem hi) (List.getElem_mem hj) e
/-- groups that no round parts -/
def Stable (p : Plan) (gs : List Int) : Prop := ∀ i (hi : i < p.length) j (hj : j < p.length), gAt gs i = gAt gs j → view gs p[i] = view gs p[j]
theorem map_gAt {gs : List Int} {n : Nat} (h : gs.length = n) : (List.range n).map (fun i => gAt gs (i : Nat)) = gs := by
  apply List.ext_getElem
  · simp [h]
  · intro i h1 h2
    simp [gAt, h2]
theorem split_len (p : Plan) (gs : List Int) : (splitG p gs).length = p.length := by unfold splitG; simp
theorem stable_of {p : Plan} {gs : List Int} (hl : gs.length = p.length) (f : Finer p.length (splitG p gs) gs) (h : (dst (splitG p gs)).length ≤ (dst gs).length) : Stable p gs := fun i hi j hj e => by
  have := (refine_cnt (f := fun i : Nat => gAt (splitG p gs) i) (g := fun i : Nat => gAt gs i) (List.range p.length) fun i hi j hj e => f i (List.mem_range.mp hi) j (List.mem_range.mp hj) e).2
  rw [map_gAt (split_len p gs), map_gAt hl] at this
  have := this h i (List.mem_range.mpr hi) j (List.mem_range.mpr hj) e
  exact (split_view hi hj).mp this
theorem finer_cnt {p : Plan} {gs hs : List Int} (hl : gs.length = p.length) (hl2 : hs.length = p.length) (f : Finer p.length hs gs) : (dst gs).length ≤ (dst hs).length := by
  have := (refine_cnt (f := fun i : Nat => gAt hs i) (g := fun i : Nat => gAt gs i) (List.range p.length) fun i hi j hj e => f i (List.mem_range.mp hi) j (List.mem_range.mp hj) e).1
  rwa [map_gAt hl, map_gAt hl2] at this
theorem gAt_zero (n : Nat) (i : Int) : gAt (List.replicate n 0) i = 0 := by
  unfold gAt
  rw [List.getElem?_replicate]
  split <;> rfl
theorem zero_finer (n m : Nat) (hs : List Int) : Finer n hs (List.replicate m 0) := fun i _ j _ _ => by rw [gAt_zero, gAt_zero]
end K

namespace K
open PySem L2 DL
/-! ### ways with other goals -/
def setG (f : Int → Int) (s : Stp) : Stp := (s.1, s.2.1, s.2.2.1, f (goalOf s))
theorem putM_map {α β γ : Type} [DecidableEq α] (f : β → γ) (m : List (α × β)) (a : α) (b : β) : putM (m.map fun p => (p.1, f p.2)) a (f b) = (putM m a b).map fun p => (p.1, f p.2) := by
  have e : ∀ m : List (α × β), getM (m.map fun p => (p.1, f p.2)) a = (getM m a).map f := fun m => by
    induction m with
    | nil => rfl
    | cons p m ih => rw [List.map_cons, getM, getM]; split <;> simp [ih]
  unfold putM
  rw [e, Option.isSome_map]
  split
  · rw [List.map_map, List.map_map]
    refine List.map_congr_left fun p _ => ?_
    show (if p.1 = a then (p.1, f b) else (p.1, f p.2)) = ((if p.1 = a then (p.1, b) else p).1, f (if p.1 = a then (p.1, b) else p).2)
    split <;> rfl
  · rw [List.map_append]; rfl
theorem getM_map {α β γ : Type} [DecidableEq α] (f : β → γ) (a : α) : ∀ m : List (α × β), getM (m.map fun p => (p.1, f p.2)) a = (getM m a).map f
  | [] => rfl
  | p :: m => by rw [List.map_cons, getM, getM]; split <;> simp [getM_map f a m]
theorem ways_set (f : Int → Int) (r : Room) : ways (r.map (setG f)) = (ways r).map fun p => (p.1, f p.2) := by
  have : ∀ (r : Room) (m : List (K3 × Int)), (r.map (setG f)).foldl (fun m s => putM m (kyOf s) (goalOf s)) (m.map fun p => (p.1, f p.2)) = (r.foldl (fun m s => putM m (kyOf s) (goalOf s)) m).map fun p => (p.1, f p.2) := by
    intro r
    induction r with
    | nil => intro m; rfl
    | cons s r ih =>
      intro m
      rw [List.map_cons, List.foldl_cons, List.foldl_cons, ← ih]
      congr 1
      exact putM_map f m (kyOf s) (goalOf s)
  exact this r []
theorem way_set (f : Int → Int) (r : Room) (k : K3) : getM (ways (r.map (setG f))) k = (getM (ways r) k).map f := by rw [ways_set, getM_map]
/-! ### pigeons -/
theorem nodup_sub {α : Type} [DecidableEq α] : ∀ {l m : List α}, l.Nodup → (∀ x ∈ l, x ∈ m) → l.length ≤ m.length
  | [], m, _, _ => Nat.zero_le _
  | a :: l, m, h, hs => by
    rw [List.nodup_cons] at h
    have ha := hs a List.mem_cons_self
    have := nodup_sub (m := m.erase a) h.2 fun x hx => (List.mem_erase_of_ne fun e => h.1 (by subst e; exact hx)).mpr (hs x (List.mem_cons_of_mem _ hx))
    rw [List.length_erase_of_mem ha] at this
    have := List.length_pos_of_mem ha
    rw [List.length_cons]; omega
/-! ### rooms as they are reached -/
def addR (gs : List Int) (re : List Int) (r : Int) : List Int := if gAt gs r ∈ re.map (gAt gs) then re else re ++ [r]
def dB (gs : List Int) (xs : List Int) : List Int := xs.foldl (addR gs) []
def rm (p : Plan) (r : Int) : Room := (p[r.toNat]?).getD []
def goals (r : Room) : List Int := r.map goalOf
def flat (p : Plan) (re : List Int) : List Int := re.flatMap fun r => goals (rm p r)
theorem dB_snoc (gs xs : List Int) (r : Int) : dB gs (xs ++ [r]) = addR gs (dB gs xs) r := by unfold dB; rw [List.foldl_append]; rfl
theorem dB_add (gs xs ys : List Int) : dB gs (xs ++ ys) = ys.foldl (addR gs) (dB gs xs) := by unfold dB; rw [List.foldl_append]
theorem dB_map (gs : List Int) (xs : List Int) : (dB gs xs).map (gAt gs) = dst (xs.map (gAt gs)) := by
  refine snoc_ind (p := fun xs => (dB gs xs).map (gAt gs) = dst (xs.map (gAt gs))) rfl (fun l a ih => ?_) xs
  rw [dB_snoc, List.map_append, List.map_cons, List.map_nil, dst_snoc, ← ih]
  unfold addR
  split <;> simp
theorem dB_mem (gs : List Int) (xs : List Int) : ∀ r ∈ dB gs xs, r ∈ xs := by
  refine snoc_ind (p := fun xs => ∀ r ∈ dB gs xs, r ∈ xs) (fun _ h => h) (fun l a ih r h => ?_) xs
  rw [dB_snoc] at h
  unfold addR at h
  split at h
  · exact List.mem_append_left _ (ih r h)
  · rcases List.mem_append.mp h with h | h
    · exact List.mem_append_left _ (ih r h)
    · exact List.mem_append_right _ h
theorem dB_app (gs xs : List Int) : ∀ ys, ∃ zs, dB gs (xs ++ ys) = dB gs xs ++ zs := by
  refine snoc_ind ⟨[], by simp⟩ (fun l a ⟨zs, ih⟩ => ?_)
  rw [← List.append_assoc, dB_snoc, ih]
  unfold addR
  split
  · exact ⟨zs, rfl⟩
  · exact ⟨zs ++ [a], by rw [List.append_assoc]⟩
/-- the rooms re are reached, those below at are gone through -/
structure BI (p : Plan) (gs : List Int) (re : List Int) (i : Nat) : Prop where
  le : i ≤ re.length
  eq : re = dB gs (0 :: flat p (re.take i))
  rc : ∀ k < i, k < (dB gs (0 :: flat p (re.take k))).length
theorem BI.start (p : Plan) (gs : List Int) : BI p gs [0] 0 := ⟨by simp, by simp [flat, dB, addR], fun _ h => by omega⟩
theorem flat_snoc (p : Plan) (xs : List Int) (r : Int) : flat p (xs ++ [r]) = flat p xs ++ goals (rm p r) := by unfold flat; simp
theorem BI.next {p : Plan} {gs re : List Int} {i : Nat} (h : BI p gs re i) (hi : i < re.length) : BI p gs ((goals (rm p re[i])).foldl (addR gs) re) (i + 1) ∧ ∃ zs, (goals (rm p re[i])).foldl (addR gs) re = re ++ zs := by
  have e : (goals (rm p re[i])).foldl (addR gs) re = dB gs (0 :: flat p (re.take (i + 1))) := by
    rw [List.take_add_one, List.getElem?_eq_getElem hi]
    show _ = dB gs (0 :: flat p (re.take i ++ [re[i]]))
    rw [flat_snoc, ← List.cons_append, dB_add, ← h.eq]
  obtain ⟨zs, hz⟩ := dB_app gs (0 :: flat p (re.take i)) (goals (rm p re[i]))
  rw [← h.eq, List.cons_append, ← flat_snoc] at hz
  have e1 : re.take (i + 1) = re.take i ++ [re[i]] := by rw [List.take_add_one, List.getElem?_eq_getElem hi]; rfl
  rw [← e1] at hz
  rw [← e] at hz
  refine ⟨⟨?_, ?_, ?_⟩, zs, hz⟩
  · rw [hz, List.length_append]; omega
  · have : ((goals (rm p re[i])).foldl (addR gs) re).take (i + 1) = re.take (i + 1) := by
      rw [hz, List.take_append_of_le_length (by omega)]
    rw [this]; exact e
  · intro k hk
    have ek : ((goals (rm p re[i])).foldl (addR gs) re).take k = re.take k := by
      rw [hz, List.take_append_of_le_length (by omega)]
    rw [ek]
    by_cases q : k = i
    · subst q
      have := congrArg List.length h.eq
      omega
    · exact h.rc k (by omega)
theorem rm_get {p : Plan} {j : Int} (h0 : 0 ≤ j) (h1 : j < p.length) : p[j.toNat]? = some (rm p j) := by
  have : j.toNat < p.length := by omega
  unfold rm; simp [this]
theorem rm_mem {p : Plan} {j : Int} (h0 : 0 ≤ j) (h1 : j < p.length) : rm p j ∈ p := List.mem_of_getElem? (rm_get h0 h1)
theorem goals_in {p : Plan} (ht : Tgt p) {j x : Int} (h0 : 0 ≤ j) (h1 : j < p.length) (hx : x ∈ goals (rm p j)) : 0 ≤ x ∧ x < p.length := by
  obtain ⟨s, hs, rfl⟩ := List.mem_map.mp hx
  exact ht _ (rm_mem h0 h1) s hs
theorem BI.range {p : Plan} (ht : Tgt p) (h0 : p ≠ []) {gs re : List Int} : ∀ {i : Nat}, BI p gs re i → ∀ r ∈ re, 0 ≤ r ∧ r < p.length := by
  intro i h
  have key : ∀ k, k ≤ i → ∀ r ∈ dB gs (0 :: flat p (re.take k)), 0 ≤ r ∧ r < p.length := by
    intro k
    induction k with
    | zero =>
      intro _ r hr
      have := dB_mem _ _ r hr
      simp [flat] at this
      subst this
      have := List.length_pos_iff.mpr h0
      omega
    | succ k ih =>
      intro hk r hr
      have hk1 : k < re.length := by have := h.le; omega
      have e1 : re.take (k + 1) = re.take k ++ [re[k]] := by rw [List.take_add_one, List.getElem?_eq_getElem hk1]; rfl
      have := dB_mem _ _ r hr
      rw [e1, flat_snoc, ← List.cons_append] at this
      -- the room gone through is one that was reached
      have hre : 0 ≤ re[k] ∧ re[k] < p.length := by
        have hlt := h.rc k (by omega)
        have hpre : ∃ zs, re = dB gs (0 :: flat p (re.take k)) ++ zs := by
          obtain ⟨zs, hz⟩ := dB_app gs (0 :: flat p (re.take k)) (flat p ((re.take i).drop k))
          refine ⟨zs, ?_⟩
          rw [← hz, List.cons_append]
          have : flat p (re.take k) ++ flat p ((re.take i).drop k) = flat p (re.take i) := by
            unfold flat
            rw [← List.flatMap_append]
            congr 1
            have : re.take k = (re.take i).take k := by rw [List.take_take]; congr 1; omega
            rw [this, List.take_append_drop]
          rw [this]; exact h.eq
        obtain ⟨zs, hz⟩ := hpre
        have : re[k]? = (dB gs (0 :: flat p (re.take k)))[k]? := by
          have := congrArg (fun l : List Int => l[k]?) hz
          rw [List.getElem?_append_left hlt] at this
          exact this
        rw [List.getElem?_eq_getElem hk1, List.getElem?_eq_getElem hlt] at this
        injection this with this
        rw [this]
        exact ih (by omega) _ (List.getElem_mem hlt)
      rcases List.mem_append.mp this with q | q
      · rcases List.mem_cons.mp q with q | q
        · subst q
          have := List.length_pos_iff.mpr h0
          omega
        · unfold flat at q
          obtain ⟨x, hx, hr2⟩ := List.mem_flatMap.mp q
          -- x is among the first k rooms reached: rooms in range by h.rc
          obtain ⟨t, htk, rfl⟩ := List.getElem_of_mem hx
          rw [List.length_take] at htk
          have ht1 : t < re.length := by omega
          -- by the smaller prefix
          have : 0 ≤ re[t] ∧ re[t] < p.length := by
            have hlt := h.rc t (by omega)
            have hpre : ∃ zs, re = dB gs (0 :: flat p (re.take t)) ++ zs := by
              obtain ⟨zs, hz⟩ := dB_app gs (0 :: flat p (re.take t)) (flat p ((re.take i).drop t))
              refine ⟨zs, ?_⟩
              rw [← hz, List.cons_append]
              have : flat p (re.take t) ++ flat p ((re.take i).drop t) = flat p (re.take i) := by
                unfold flat
                rw [← List.flatMap_append]
                congr 1
                have : re.take t = (re.take i).take t := by rw [List.take_take]; congr 1; omega
                rw [this, List.take_append_drop]
              rw [this]; exact h.eq
            obtain ⟨zs, hz⟩ := hpre
            have e3 : re[t]? = (dB gs (0 :: flat p (re.take t)))[t]? := by
              have := congrArg (fun l : List Int => l[t]?) hz
              rw [List.getElem?_append_left hlt] at this
              exact this
            rw [List.getElem?_eq_getElem ht1, List.getElem?_eq_getElem hlt] at e3
            injection e3 with e3
            have hk2 : re[t] ∈ dB gs (0 :: flat p (re.take k)) := by
              obtain ⟨ws, hw⟩ := dB_app gs (0 :: flat p (re.take t)) (flat p ((re.take k).drop t))
              have e4 : flat p (re.take t) ++ flat p ((re.take k).drop t) = flat p (re.take k) := by
                unfold flat
                rw [← List.flatMap_append]
                congr 1
                have : re.take t = (re.take k).take t := by rw [List.take_take]; congr 1; omega
                rw [this, List.take_append_drop]
              rw [List.cons_append, e4] at hw
              rw [hw, e3]
              exact List.mem_append_left _ (List.getElem_mem hlt)
            exact ih (by omega) _ hk2
          rw [List.getElem_take] at hr2
          exact goals_in ht this.1 this.2 hr2
      · exact goals_in ht hre.1 hre.2 q
  intro r hr
  rw [h.eq] at hr
  exact key i (Nat.le_refl _) r hr
theorem BI.nodup {p : Plan} {gs re : List Int} {i : Nat} (h : BI p gs re i) : (re.map (gAt gs)).Nodup := by
  rw [h.eq, dB_map]; exact dst_nodup _
theorem nodup_of_map {α β : Type} {f : α → β} : ∀ {l : List α}, (l.map f).Nodup → l.Nodup
  | [], _ => .nil
  | a :: l, h => by
    rw [List.map_cons, List.nodup_cons] at h
    rw [List.nodup_cons]
    exact ⟨fun q => h.1 (List.mem_map_of_mem q), nodup_of_map h.2⟩
theorem BI.len {p : Plan} (ht : Tgt p) (h0 : p ≠ []) {gs re : List Int} {i : Nat} (h : BI p gs re i) : re.length ≤ p.length := by
  have := nodup_sub (m := (List.range p.length).map fun i : Nat => (i : Int)) (nodup_of_map h.nodup) fun x hx => by
    have := h.range ht h0 x hx
    exact List.mem_map.mpr ⟨x.toNat, List.mem_range.mpr (by omega), by omega⟩
  simpa using this
/-- the rooms that come about, told anew -/
def posB (gs re : List Int) (g : Int) : Int := ((re.map (gAt gs)).idxOf g : Nat)
def numbered (p : Plan) (gs re : List Int) : Plan := re.map fun r => (rm p r).map (setG fun j => posB gs re (gAt gs j))
theorem BI.has {p : Plan} {gs re : List Int} (h : BI p gs re re.length) {r j : Int} (hr : r ∈ re) (hj : j ∈ goals (rm p r)) : gAt gs j ∈ re.map (gAt gs) := by
  have e := h.eq
  rw [List.take_length] at e
  rw [e, dB_map, mem_dst]
  refine List.mem_map_of_mem (List.mem_cons_of_mem _ ?_)
  exact List.mem_flatMap.mpr ⟨r, hr, hj⟩
theorem posB_at {gs re : List Int} {g : Int} (h : g ∈ re.map (gAt gs)) : ∃ hk : (posB gs re g).toNat < re.length, gAt gs (re[(posB gs re g).toNat]) = g ∧ 0 ≤ posB gs re g := by
  have l := List.idxOf_lt_length_iff.mpr h
  have e := List.getElem_idxOf l
  have l' : (posB gs re g).toNat < re.length := by unfold posB; rw [List.length_map] at l; omega
  refine ⟨l', ?_, by unfold posB; omega⟩
  rw [List.getElem_map] at e
  exact e
theorem numbered_len (p : Plan) (gs re : List Int) : (numbered p gs re).length = re.length := by simp [numbered]
theorem num_get {p : Plan} {gs re : List Int} {k : Nat} (hk : k < re.length) : (numbered p gs re)[k]? = some ((rm p re[k]).map (setG fun j => posB gs re (gAt gs j))) := by
  unfold numbered; simp [hk]
theorem gAt_nat (p : Plan) (gs : List Int) (i : Nat) : gAt gs (i : Int) = (gs[i]?).getD 0 := by unfold gAt; simp
/-- the same rows, from rooms of the same group -/
theorem num_row {p : Plan} (ht : Tgt p) (h0 : p ≠ []) {gs re : List Int} (hs : Stable p gs) (h : BI p gs re re.length) : ∀ (ks : List K3) (j : Int) (k : Nat) (hk : k < re.length), 0 ≤ j → j < p.length → gAt gs j = gAt gs re[k] → goRow p j.toNat ks = goRow (numbered p gs re) k ks
  | [], j, k, hk, _, _, _ => rfl
  | key :: ks, j, k, hk, j0, j1, e => by
    have hr := h.range ht h0 re[k] (List.getElem_mem hk)
    have hv : view gs (rm p j) = view gs (rm p re[k]) := by
      have l1 : j.toNat < p.length := by omega
      have l2 : (re[k]).toNat < p.length := by omega
      have := hs j.toNat l1 (re[k]).toNat l2 (by rw [Int.toNat_of_nonneg j0, Int.toNat_of_nonneg hr.1]; exact e)
      unfold rm
      simpa [l1, l2] using this
    have hw : (getM (ways (rm p j)) key).map (gAt gs) = (getM (ways (rm p re[k])) key).map (gAt gs) := by
      rw [← way_set, ← way_set]
      show getM (ways (view gs _)) _ = getM (ways (view gs _)) _
      rw [hv]
    have hin : ∀ (i : Int) (x : Int), 0 ≤ i → i < p.length → getM (ways (rm p i)) key = some x → x ∈ goals (rm p i) := fun i x i0 i1 hx => by
      have : ∀ (r : Room) (m : List (K3 × Int)), (∀ q ∈ m, q.2 ∈ goals (rm p i)) → (∀ s ∈ r, goalOf s ∈ goals (rm p i)) → ∀ q ∈ r.foldl (fun m s => putM m (kyOf s) (goalOf s)) m, q.2 ∈ goals (rm p i) := by
        intro r
        induction r with
        | nil => intro m hm _ q hq; exact hm q hq
        | cons s r ih =>
          intro m hm hr q hq
          refine ih _ (fun z hz => ?_) (fun s hs => hr s (List.mem_cons_of_mem _ hs)) q hq
          unfold putM at hz
          dsimp only at hz
          split at hz
          · obtain ⟨y, hy, rfl⟩ := List.mem_map.mp hz
            split
            · exact hr s List.mem_cons_self
            · exact hm y hy
          · rcases List.mem_append.mp hz with hz | hz
            · exact hm z hz
            · rw [List.mem_singleton] at hz; subst hz; exact hr s List.mem_cons_self
      have mem : ∀ {m : List (K3 × Int)}, getM m key = some x → (key, x) ∈ m := by
        intro m
        induction m with
        | nil => intro h; cases h
        | cons q m ih =>
          intro h
          obtain ⟨q1, q2⟩ := q
          unfold getM at h
          split at h
          · rename_i e; cases h; subst e; exact List.mem_cons_self
          · exact List.mem_cons_of_mem _ (ih h)
      exact this (rm p i) [] (fun _ h => nomatch h) (fun s hs => List.mem_map_of_mem hs) _ (mem hx)
    rw [goRow_cons, goRow_cons, rm_get j0 j1, num_get hk]
    dsimp only
    rw [way_set]
    cases h1 : getM (ways (rm p j)) key with
    | none =>
      rw [h1] at hw
      cases h2 : getM (ways (rm p re[k])) key with
      | none => rfl
      | some y => rw [h2] at hw; cases hw
    | some x =>
      rw [h1] at hw
      cases h2 : getM (ways (rm p re[k])) key with
      | none => rw [h2] at hw; cases hw
      | some y =>
        rw [h2] at hw
        injection hw with hxy
        have hx := goals_in ht j0 j1 (hin j x j0 j1 h1)
        have hy := h.has (List.getElem_mem hk) (hin re[k] y hr.1 hr.2 h2)
        obtain ⟨hk', e', _⟩ := posB_at hy
        show goRow p x.toNat ks = goRow (numbered p gs re) (posB gs re (gAt gs y)).toNat ks
        exact num_row ht h0 hs h ks x _ hk' hx.1 hx.2 (by rw [e']; exact hxy)
theorem BI.zero {p : Plan} {gs re : List Int} {i : Nat} (h : BI p gs re i) : ∃ hk : 0 < re.length, re[0] = 0 := by
  obtain ⟨zs, hz⟩ := dB_app gs [0] (flat p (re.take i))
  have e : dB gs [0] = [0] := by simp [dB, addR]
  rw [e, List.singleton_append, ← h.eq] at hz
  subst hz
  exact ⟨by simp, rfl⟩
theorem num_rows {p : Plan} (ht : Tgt p) (h0 : p ≠ []) {gs re : List Int} (hs : Stable p gs) (h : BI p gs re re.length) (ks : List K3) : goRow (numbered p gs re) 0 ks = goRow p 0 ks := by
  obtain ⟨hk, e⟩ := h.zero
  have := List.length_pos_iff.mpr h0
  exact (num_row ht h0 hs h ks 0 0 hk (by decide) (by omega) (by rw [e])).symm
end K

namespace K
open PySem L2 DL
/-! ### rooms with unlike keys -/
theorem getM_iff {α β : Type} [DecidableEq α] : ∀ {m : List (α × β)}, (m.map (·.1)).Nodup → ∀ k v, getM m k = some v ↔ (k, v) ∈ m
  | [], _, k, v => by simp [getM]
  | (x, y) :: m, h, k, v => by
    rw [List.map_cons, List.nodup_cons] at h
    rw [getM, List.mem_cons]
    by_cases e : x = k
    · subst e
      rw [if_pos rfl]
      constructor
      · intro q; cases q; exact .inl rfl
      · intro q
        rcases q with q | q
        · cases q; rfl
        · exact absurd (List.mem_map_of_mem (f := (·.1)) q) h.1
    · rw [if_neg e, getM_iff h.2 k v]
      exact ⟨.inr, fun q => q.elim (fun z => by cases z; exact absurd rfl e) id⟩
theorem ways_map : ∀ {r : Room} (m : List (K3 × Int)), (m.map (·.1) ++ r.map kyOf).Nodup → r.foldl (fun m s => putM m (kyOf s) (goalOf s)) m = m ++ r.map fun s => (kyOf s, goalOf s)
  | [], m, _ => by simp
  | s :: r, m, h => by
    have hn : getM m (kyOf s) = none := by
      cases q : getM m (kyOf s) with
      | none => rfl
      | some v =>
        have : ∀ (m : List (K3 × Int)), getM m (kyOf s) = some v → kyOf s ∈ m.map (·.1) := by
          intro m
          induction m with
          | nil => intro h; cases h
          | cons z m ih =>
            obtain ⟨z1, z2⟩ := z
            intro h
            rw [getM] at h
            split at h
            · rename_i e; subst e; exact List.mem_cons_self
            · exact List.mem_cons_of_mem _ (ih h)
        have := this m q
        rw [List.map_cons, List.nodup_append] at h
        exact absurd rfl (h.2.2 _ this _ List.mem_cons_self)
    have e : putM m (kyOf s) (goalOf s) = m ++ [(kyOf s, goalOf s)] := by unfold putM; rw [hn]; rfl
    rw [List.foldl_cons, e, ways_map _ (by simpa using h), List.append_assoc]; rfl
theorem ways_nd {r : Room} (h : (r.map kyOf).Nodup) : ways r = r.map fun s => (kyOf s, goalOf s) := by
  unfold ways; rw [ways_map [] (by simpa using h)]; rfl
theorem way_iff {r : Room} (h : (r.map kyOf).Nodup) (k : K3) (v : Int) : getM (ways r) k = some v ↔ ∃ s ∈ r, kyOf s = k ∧ goalOf s = v := by
  rw [ways_nd h, getM_iff (by rw [List.map_map]; exact h)]
  rw [List.mem_map]
  constructor
  · rintro ⟨s, hs, e⟩; injection e with e1 e2; exact ⟨s, hs, e1, e2⟩
  · rintro ⟨s, hs, e1, e2⟩; exact ⟨s, hs, by rw [e1, e2]⟩
theorem way_perm {r r' : Room} (hp : r.Perm r') (h : (r.map kyOf).Nodup) (k : K3) : getM (ways r) k = getM (ways r') k := by
  have h' : (r'.map kyOf).Nodup := (hp.map kyOf).nodup_iff.mp h
  have key : ∀ v, getM (ways r) k = some v ↔ getM (ways r') k = some v := fun v => by
    rw [way_iff h, way_iff h']
    exact ⟨fun ⟨s, a, b⟩ => ⟨s, hp.mem_iff.mp a, b⟩, fun ⟨s, a, b⟩ => ⟨s, hp.mem_iff.mpr a, b⟩⟩
  cases q : getM (ways r) k with
  | some v => exact ((key v).mp q).symm
  | none =>
    cases q' : getM (ways r') k with
    | none => rfl
    | some v => rw [(key v).mpr q'] at q; cases q
/-- rooms in another sequence of steps have the same rows -/
theorem row_perm {p : Plan} {f : Room → Room} (hf : ∀ r ∈ p, (f r).Perm r) (hn : ∀ r ∈ p, (r.map kyOf).Nodup) : ∀ (ks : List K3) (i : Nat), goRow (p.map f) i ks = goRow p i ks
  | [], i => rfl
  | k :: ks, i => by
    rw [goRow_cons, goRow_cons, List.getElem?_map]
    cases q : p[i]? with
    | none => rfl
    | some r =>
      have hr := List.mem_of_getElem? q
      have := way_perm (hf r hr) (((hf r hr).map kyOf).nodup_iff.mpr (hn r hr)) k
      show (match getM (ways (f r)) k with | none => false | some j => goRow (p.map f) j.toNat ks) = (match getM (ways r) k with | none => false | some j => goRow p j.toNat ks)
      rw [this]
      cases getM (ways r) k with
      | none => rfl
      | some j => exact row_perm hf hn ks j.toNat
/-- whoever has the same ways out tells them in the same sequence -/
def KeySame (p : Plan) : Prop := ∀ r ∈ p, ∀ r' ∈ p, (∀ k, (getM (ways r) k).isSome = (getM (ways r') k).isSome) → r.map kyOf = r'.map kyOf
def NodK (p : Plan) : Prop := ∀ r ∈ p, (r.map kyOf).Nodup
def Same (p : Plan) (i : Nat) (q : Plan) (j : Nat) : Prop := ∀ ks, goRow p i ks = goRow q j ks
/-- rooms with the same rows are in one group -/
def Coarse (p : Plan) (gs : List Int) : Prop := ∀ i < p.length, ∀ j < p.length, Same p i p j → gAt gs i = gAt gs j
theorem same_some {p q : Plan} {i j : Nat} (hi : i < p.length) (hj : j < q.length) (h : Same p i q j) (k : K3) : (getM (ways p[i]) k).isSome = (getM (ways q[j]) k).isSome := by
  have := h [k]
  rw [goRow_cons, goRow_cons, List.getElem?_eq_getElem hi, List.getElem?_eq_getElem hj] at this
  dsimp only at this
  cases h1 : getM (ways p[i]) k <;> cases h2 : getM (ways q[j]) k <;> rw [h1, h2] at this <;> simp [goRow] at this ⊢
theorem same_next {p q : Plan} {i j : Nat} (hi : i < p.length) (hj : j < q.length) (h : Same p i q j) {k : K3} {x y : Int} (h1 : getM (ways p[i]) k = some x) (h2 : getM (ways q[j]) k = some y) : Same p x.toNat q y.toNat := fun ks => by
  have := h (k :: ks)
  rw [goRow_cons, goRow_cons, List.getElem?_eq_getElem hi, List.getElem?_eq_getElem hj] at this
  dsimp only at this
  rw [h1, h2] at this
  exact this
theorem same_of {p q : Plan} {i j : Nat} (hi : i < p.length) (hj : j < q.length) (h1 : ∀ k, (getM (ways p[i]) k).isSome = (getM (ways q[j]) k).isSome) (h2 : ∀ k x y, getM (ways p[i]) k = some x → getM (ways q[j]) k = some y → Same p x.toNat q y.toNat) : Same p i q j := fun ks => by
  cases ks with
  | nil => rfl
  | cons k ks =>
    rw [goRow_cons, goRow_cons, List.getElem?_eq_getElem hi, List.getElem?_eq_getElem hj]
    dsimp only
    have := h1 k
    cases e1 : getM (ways p[i]) k with
    | none =>
      rw [e1] at this
      cases e2 : getM (ways q[j]) k with
      | none => rfl
      | some y => rw [e2] at this; cases this
    | some x =>
      rw [e1] at this
      cases e2 : getM (ways q[j]) k with
      | none => rw [e2] at this; cases this
      | some y => exact h2 k x y e1 e2 ks
theorem room_ext : ∀ {r r' : Room} {f : Int → Int}, r.map kyOf = r'.map kyOf → (∀ s ∈ r, ∀ s' ∈ r', kyOf s = kyOf s' → f (goalOf s) = f (goalOf s')) → r.map (setG f) = r'.map (setG f)
  | [], [], _, _, _ => rfl
  | [], _ :: _, _, h, _ => by cases h
  | _ :: _, [], _, h, _ => by cases h
  | s :: r, s' :: r', f, h, hg => by
    rw [List.map_cons, List.map_cons] at h ⊢
    injection h with h1 h2
    have e1 := hg s List.mem_cons_self s' List.mem_cons_self h1
    rw [room_ext h2 fun a ha b hb => hg a (List.mem_cons_of_mem _ ha) b (List.mem_cons_of_mem _ hb)]
    have : setG f s = setG f s' := by
      injection h1 with a1 h1
      injection h1 with a2 a3
      simp only [setG, a1, a2, a3, e1]
    rw [this]
theorem split_coarse {p : Plan} (ht : Tgt p) (hk : KeySame p) (hn : NodK p) {gs : List Int} (h : Coarse p gs) : Coarse p (splitG p gs) := fun i hi j hj hs => by
  rw [split_view hi hj]
  have e := hk _ (List.getElem_mem hi) _ (List.getElem_mem hj) (same_some hi hj hs)
  show (p[i]).map (setG (gAt gs)) = (p[j]).map (setG (gAt gs))
  refine room_ext e fun s hs1 s' hs2 ek => ?_
  have n1 := hn _ (List.getElem_mem hi)
  have n2 := hn _ (List.getElem_mem hj)
  have w1 := (way_iff n1 (kyOf s) (goalOf s)).mpr ⟨s, hs1, rfl, rfl⟩
  have w2 := (way_iff n2 (kyOf s) (goalOf s')).mpr ⟨s', hs2, ek.symm, rfl⟩
  have t1 := ht _ (List.getElem_mem hi) s hs1
  have t2 := ht _ (List.getElem_mem hj) s' hs2
  have := h (goalOf s).toNat (by omega) (goalOf s').toNat (by omega) (same_next hi hj hs w1 w2)
  rwa [Int.toNat_of_nonneg t1.1, Int.toNat_of_nonneg t2.1] at this
theorem zero_coarse (p : Plan) (n : Nat) : Coarse p (List.replicate n 0) := fun i _ j _ _ => by rw [gAt_zero, gAt_zero]
end K

namespace K
open PySem L2 DL
/-! ### the canonical numbering -/
def fl (q : Plan) : List Int := q.flatMap goals
def rangeI (n : Nat) : List Int := (List.range n).map fun i : Nat => (i : Int)
theorem rangeI_get {n i : Nat} (h : i < n) : (rangeI n)[i]? = some (i : Int) := by unfold rangeI; simp [h]
theorem rangeI_len (n : Nat) : (rangeI n).length = n := by simp [rangeI]
theorem mem_rangeI {n : Nat} {x : Int} : x ∈ rangeI n ↔ 0 ≤ x ∧ x < n := by
  unfold rangeI
  rw [List.mem_map]
  constructor
  · rintro ⟨i, hi, rfl⟩
    have := List.mem_range.mp hi
    omega
  · intro h
    exact ⟨x.toNat, List.mem_range.mpr (by omega), by omega⟩
structure Can (q : Plan) : Prop where
  ne : q ≠ []
  eq : dst (0 :: fl q) = rangeI q.length
  rc : ∀ k < q.length, k < (dst (0 :: fl (q.take k))).length
def Red (q : Plan) : Prop := ∀ i < q.length, ∀ j < q.length, Same q i q j → i = j
/-- keys told in one order -/
def SortK (lt : K3 → K3 → Prop) (q : Plan) : Prop := ∀ r ∈ q, (r.map kyOf).Pairwise lt
theorem pair_ext {α : Type} {lt : α → α → Prop} (as : ∀ a b, lt a b → ¬ lt b a) : ∀ {l m : List α}, l.Pairwise lt → m.Pairwise lt → (∀ x, x ∈ l ↔ x ∈ m) → l = m
  | [], [], _, _, _ => rfl
  | [], b :: m, _, _, h => by have := (h b).mpr List.mem_cons_self; cases this
  | a :: l, [], _, _, h => by have := (h a).mp List.mem_cons_self; cases this
  | a :: l, b :: m, h1, h2, h => by
    rw [List.pairwise_cons] at h1 h2
    have e : a = b := Classical.byContradiction fun ne => by
      have q1 := (h a).mp List.mem_cons_self
      have q2 := (h b).mpr List.mem_cons_self
      rcases List.mem_cons.mp q1 with e | q1
      · exact ne e
      · rcases List.mem_cons.mp q2 with e | q2
        · exact ne e.symm
        · exact as _ _ (h1.1 b q2) (h2.1 a q1)
    subst e
    rw [pair_ext as h1.2 h2.2 fun x => ?_]
    have ir : ∀ y, ¬ lt y y := fun y hy => as y y hy hy
    constructor
    · intro hx
      rcases List.mem_cons.mp ((h x).mp (List.mem_cons_of_mem _ hx)) with e | e
      · subst e; exact absurd (h1.1 _ hx) (ir _)
      · exact e
    · intro hx
      rcases List.mem_cons.mp ((h x).mpr (List.mem_cons_of_mem _ hx)) with e | e
      · subst e; exact absurd (h2.1 _ hx) (ir _)
      · exact e
theorem key_mem {r : Room} (h : (r.map kyOf).Nodup) (k : K3) : k ∈ r.map kyOf ↔ (getM (ways r) k).isSome = true := by
  rw [Option.isSome_iff_exists, List.mem_map]
  constructor
  · rintro ⟨s, hs, e⟩; exact ⟨_, (way_iff h k _).mpr ⟨s, hs, e, rfl⟩⟩
  · rintro ⟨v, hv⟩
    obtain ⟨s, hs, e, _⟩ := (way_iff h k v).mp hv
    exact ⟨s, hs, e⟩
theorem keys_same {lt : K3 → K3 → Prop} (as : ∀ a b, lt a b → ¬ lt b a) {r r' : Room} (h : (r.map kyOf).Nodup) (h' : (r'.map kyOf).Nodup) (s : (r.map kyOf).Pairwise lt) (s' : (r'.map kyOf).Pairwise lt)
    (e : ∀ k, (getM (ways r) k).isSome = (getM (ways r') k).isSome) : r.map kyOf = r'.map kyOf :=
  pair_ext as s s' fun k => by rw [key_mem h, key_mem h', e]
theorem keySame_of {lt : K3 → K3 → Prop} (as : ∀ a b, lt a b → ¬ lt b a) {p : Plan} (hn : NodK p) (hs : SortK lt p) : KeySame p := fun r hr r' hr' e =>
  keys_same as (hn r hr) (hn r' hr') (hs r hr) (hs r' hr') e
theorem Same.symm {p q : Plan} {i j : Nat} (h : Same p i q j) : Same q j p i := fun ks => (h ks).symm
theorem Same.trans {p q r : Plan} {i j k : Nat} (h : Same p i q j) (h' : Same q j r k) : Same p i r k := fun ks => (h ks).trans (h' ks)
theorem prefix_new {X ys : List Int} {a : Int} {n : Nat} (h : dst (X ++ a :: ys) = rangeI n) (ha : a ∉ X) : a = (dst X).length := by
  have e : X ++ a :: ys = (X ++ [a]) ++ ys := by simp
  obtain ⟨zs, hz⟩ := dst_app (X ++ [a]) ys
  rw [e, hz, dst_snoc, if_neg (fun q => ha ((mem_dst _ _).mp q))] at h
  have h1 : (rangeI n)[(dst X).length]? = some a := by
    rw [← h, List.append_assoc, List.getElem?_append_right (Nat.le_refl _)]
    simp
  have hl : (dst X).length < n := by
    have := congrArg List.length h
    rw [rangeI_len] at this
    simp at this; omega
  rw [rangeI_get hl] at h1
  injection h1 with h1
  exact h1.symm
theorem inner {q q' : Plan} (r : Red q) (r' : Red q') {n n' : Nat} (hn : n = q.length) (hn' : n' = q'.length) : ∀ {as bs X ys ys' : List Int}, as.length = bs.length → (∀ t (h : t < as.length) (h' : t < bs.length), Same q (as[t]).toNat q' (bs[t]).toNat) →
    (∀ x ∈ X, Same q x.toNat q' x.toNat) → dst (X ++ as ++ ys) = rangeI n → dst (X ++ bs ++ ys') = rangeI n' → as = bs ∧ ∀ x ∈ X ++ as, Same q x.toNat q' x.toNat
  | [], [], X, ys, ys', _, _, hX, _, _ => ⟨rfl, by simpa using hX⟩
  | [], b :: bs, X, _, _, h, _, _, _, _ => by simp at h
  | a :: as, [], X, _, _, h, _, _, _, _ => by simp at h
  | a :: as, b :: bs, X, ys, ys', hl, hs, hX, e1, e2 => by
    have h0 := hs 0 (by simp) (by simp)
    simp only [List.getElem_cons_zero] at h0
    have ra : 0 ≤ a ∧ a < n := mem_rangeI.mp (by rw [← e1, mem_dst]; simp)
    have rb : 0 ≤ b ∧ b < n' := mem_rangeI.mp (by rw [← e2, mem_dst]; simp)
    have rX : ∀ x ∈ X, (0 ≤ x ∧ x < n) ∧ (0 ≤ x ∧ x < n') := fun x hx => ⟨mem_rangeI.mp (by rw [← e1, mem_dst]; simp [hx]), mem_rangeI.mp (by rw [← e2, mem_dst]; simp [hx])⟩
    have e : a = b := by
      by_cases ha : a ∈ X
      · have := r' a.toNat (by have := rX a ha; omega) b.toNat (by omega) ((hX a ha).symm.trans h0)
        omega
      · by_cases hb : b ∈ X
        · have := r a.toNat (by omega) b.toNat (by have := rX b hb; omega) (h0.trans (hX b hb).symm)
          omega
        · rw [List.append_assoc, List.cons_append] at e1 e2
          rw [prefix_new e1 ha, prefix_new e2 hb]
    subst e
    have ih := inner r r' hn hn' (as := as) (bs := bs) (X := X ++ [a]) (ys := ys) (ys' := ys') (by simpa using hl) (fun t h h' => by
      have := hs (t + 1) (by simpa using h) (by simpa using h')
      simpa using this) (fun x hx => by
      rcases List.mem_append.mp hx with hx | hx
      · exact hX x hx
      · rw [List.mem_singleton] at hx; subst hx; exact h0) (by simpa using e1) (by simpa using e2)
    refine ⟨by rw [ih.1], fun x hx => ih.2 x (by simpa using hx)⟩
theorem fl_take {q : Plan} {k : Nat} (hk : k < q.length) : fl (q.take (k + 1)) = fl (q.take k) ++ goals q[k] := by
  rw [List.take_add_one, List.getElem?_eq_getElem hk]
  unfold fl
  rw [List.flatMap_append]; simp
theorem fl_split (q : Plan) (k : Nat) : fl q = fl (q.take k) ++ fl (q.drop k) := by
  unfold fl; rw [← List.flatMap_append, List.take_append_drop]
theorem room_eq : ∀ {r r' : Room}, r.map kyOf = r'.map kyOf → goals r = goals r' → r = r'
  | [], [], _, _ => rfl
  | [], _ :: _, h, _ => by cases h
  | _ :: _, [], h, _ => by cases h
  | (a, b, c, d) :: r, (a', b', c', d') :: r', h, g => by
    rw [List.map_cons, List.map_cons] at h
    unfold goals at g
    rw [List.map_cons, List.map_cons] at g
    injection h with h1 h2
    injection g with g1 g2
    injection h1 with x1 h1
    injection h1 with x2 x3
    have g1 : d = d' := g1
    have x1 : a = a' := x1
    have x2 : b = b' := x2
    have x3 : c = c' := x3
    rw [room_eq h2 g2, x1, x2, x3, g1]
theorem can_unique {lt : K3 → K3 → Prop} (as : ∀ a b, lt a b → ¬ lt b a) {q q' : Plan} (c : Can q) (c' : Can q') (r : Red q) (r' : Red q') (n : NodK q) (n' : NodK q') (s : SortK lt q) (s' : SortK lt q') (h : Same q 0 q' 0) : q = q' := by
  have U : ∀ k, k ≤ q.length → k ≤ q'.length → q.take k = q'.take k ∧ ∀ x ∈ 0 :: fl (q.take k), Same q x.toNat q' x.toNat := by
    intro k
    induction k with
    | zero =>
      intro _ _
      refine ⟨by simp, fun x hx => ?_⟩
      simp [fl] at hx
      subst hx; exact h
    | succ k ih =>
      intro hk hk'
      obtain ⟨e, hX⟩ := ih (by omega) (by omega)
      have hk : k < q.length := by omega
      have hk' : k < q'.length := by omega
      have e1 : dst ((0 :: fl (q.take k)) ++ goals q[k] ++ fl (q.drop (k + 1))) = rangeI q.length := by
        rw [← c.eq, fl_split q (k + 1), fl_take hk]; simp
      have e2 : dst ((0 :: fl (q.take k)) ++ goals q'[k] ++ fl (q'.drop (k + 1))) = rangeI q'.length := by
        rw [← c'.eq, fl_split q' (k + 1), fl_take hk', e]; simp
      have hmem : (k : Int) ∈ 0 :: fl (q.take k) := by
        have hlt := c.rc k hk
        rw [List.append_assoc] at e1
        obtain ⟨zs, hz⟩ := dst_app (0 :: fl (q.take k)) (goals q[k] ++ fl (q.drop (k + 1)))
        rw [hz] at e1
        have : (dst (0 :: fl (List.take k q)) ++ zs)[k]? = (rangeI q.length)[k]? := by rw [e1]
        rw [List.getElem?_append_left hlt, rangeI_get hk] at this
        exact (mem_dst _ _).mp (List.mem_of_getElem? this)
      have hsk := hX _ hmem
      simp only [Int.toNat_natCast] at hsk
      have nk := n _ (List.getElem_mem hk)
      have nk' := n' _ (List.getElem_mem hk')
      have ek : q[k].map kyOf = q'[k].map kyOf := keys_same as nk nk' (s _ (List.getElem_mem hk)) (s' _ (List.getElem_mem hk')) (same_some hk hk' hsk)
      have el : (goals q[k]).length = (goals q'[k]).length := by
        have := congrArg List.length ek
        simpa [goals] using this
      obtain ⟨g, hX'⟩ := inner r r' rfl rfl (as := goals q[k]) (bs := goals q'[k]) (X := 0 :: fl (q.take k)) el (fun t ht ht' => by
        have t1 : t < q[k].length := by simpa [goals] using ht
        have t2 : t < q'[k].length := by simpa [goals] using ht'
        have kk : kyOf q[k][t] = kyOf q'[k][t] := by
          have := congrArg (fun l : List K3 => l[t]?) ek
          simpa [t1, t2] using this
        have w1 := (way_iff nk (kyOf q[k][t]) (goalOf q[k][t])).mpr ⟨_, List.getElem_mem t1, rfl, rfl⟩
        have w2 := (way_iff nk' (kyOf q[k][t]) (goalOf q'[k][t])).mpr ⟨_, List.getElem_mem t2, kk.symm, rfl⟩
        have := same_next hk hk' hsk w1 w2
        simpa [goals] using this) hX e1 e2
      have er := room_eq ek g
      refine ⟨by rw [List.take_add_one, List.take_add_one, List.getElem?_eq_getElem hk, List.getElem?_eq_getElem hk', e, er], ?_⟩
      rw [fl_take hk]
      exact hX'
  have hlen : q.length = q'.length := by
    rcases Nat.lt_trichotomy q.length q'.length with l | l | l
    · have := (U q.length (Nat.le_refl _) (by omega)).1
      have z := c'.rc q.length l
      rw [← this, List.take_length, c.eq, rangeI_len] at z
      omega
    · exact l
    · have := (U q'.length (by omega) (Nat.le_refl _)).1
      have z := c.rc q'.length l
      rw [this, List.take_length, c'.eq, rangeI_len] at z
      omega
  have := (U q.length (Nat.le_refl _) (by omega)).1
  rw [List.take_length, hlen, List.take_length] at this
  exact this
/-! ### the numbered rooms are canonical -/
theorem flat_in {p : Plan} {gs re : List Int} (h : BI p gs re re.length) (k : Nat) : ∀ x ∈ 0 :: flat p (re.take k), gAt gs x ∈ re.map (gAt gs) := by
  intro x hx
  have e := h.eq
  rw [List.take_length] at e
  rw [e, dB_map, mem_dst]
  refine List.mem_map_of_mem ?_
  rcases List.mem_cons.mp hx with q | q
  · subst q; exact List.mem_cons_self
  · refine List.mem_cons_of_mem _ ?_
    obtain ⟨r, hr, hj⟩ := List.mem_flatMap.mp q
    exact List.mem_flatMap.mpr ⟨r, List.mem_of_mem_take hr, hj⟩
theorem posB_inj {gs re : List Int} {a b : Int} (ha : a ∈ re.map (gAt gs)) (hb : b ∈ re.map (gAt gs)) (h : posB gs re a = posB gs re b) : a = b := by
  obtain ⟨k1, e1, _⟩ := posB_at ha
  obtain ⟨k2, e2, _⟩ := posB_at hb
  rw [← e1, ← e2]
  simp only [h]
theorem fl_num (p : Plan) (gs re xs : List Int) : fl (xs.map fun r => (rm p r).map (setG fun j => posB gs re (gAt gs j))) = (flat p xs).map fun j => posB gs re (gAt gs j) := by
  unfold fl flat
  induction xs with
  | nil => rfl
  | cons x xs ih =>
    rw [List.map_cons, List.flatMap_cons, List.flatMap_cons, List.map_append, ih]
    congr 1
    unfold goals
    rw [List.map_map, List.map_map]; rfl
theorem num_can {p : Plan} {gs re : List Int} (h : BI p gs re re.length) : Can (numbered p gs re) := by
  obtain ⟨h0, e0⟩ := h.zero
  have nd := h.nodup
  have hp0 : posB gs re (gAt gs 0) = 0 := by
    unfold posB
    have : (re.map (gAt gs))[0]'(by simpa using h0) = gAt gs 0 := by simp [e0]
    rw [← this, nd.idxOf_getElem]; rfl
  have key : ∀ k, dst (0 :: fl ((numbered p gs re).take k)) = (dst ((0 :: flat p (re.take k)).map (gAt gs))).map (posB gs re) := by
    intro k
    have e : 0 :: fl ((numbered p gs re).take k) = ((0 :: flat p (re.take k)).map (gAt gs)).map (posB gs re) := by
      unfold numbered
      rw [← List.map_take, fl_num, List.map_cons, List.map_cons, hp0, List.map_map]; rfl
    rw [e]
    refine dst_injOn _ fun a ha b hb hab => ?_
    obtain ⟨x, hx, rfl⟩ := List.mem_map.mp ha
    obtain ⟨y, hy, rfl⟩ := List.mem_map.mp hb
    exact posB_inj (flat_in h k x hx) (flat_in h k y hy) hab
  refine ⟨?_, ?_, ?_⟩
  · intro q
    have := congrArg List.length q
    rw [numbered_len] at this
    rw [this] at h0
    simp at h0
  · have e := key (numbered p gs re).length
    rw [List.take_length, numbered_len] at e
    rw [e, List.take_length]
    have e1 := h.eq
    rw [List.take_length] at e1
    rw [← dB_map, ← e1, numbered_len]
    apply List.ext_getElem
    · simp [rangeI]
    · intro i h1 h2
      simp only [List.length_map] at h1
      have : gAt gs re[i] = (re.map (gAt gs))[i]'(by simpa using h1) := by simp
      simp only [List.getElem_map, rangeI, List.getElem_range]
      unfold posB
      rw [this, nd.idxOf_getElem]
  · intro k hk
    rw [numbered_len] at hk
    rw [key, List.length_map, ← dB_map, List.length_map]
    exact h.rc k hk
theorem num_same {p : Plan} (ht : Tgt p) (h0 : p ≠ []) {gs re : List Int} (hs : Stable p gs) (h : BI p gs re re.length) {k : Nat} (hk : k < re.length) : Same (numbered p gs re) k p (re[k]).toNat := fun ks => by
  have hr := h.range ht h0 re[k] (List.getElem_mem hk)
  exact (num_row ht h0 hs h ks re[k] k hk hr.1 hr.2 rfl).symm
theorem num_red {p : Plan} (ht : Tgt p) (h0 : p ≠ []) {gs re : List Int} (hs : Stable p gs) (hc : Coarse p gs) (h : BI p gs re re.length) : Red (numbered p gs re) := fun i hi j hj e => by
  rw [numbered_len] at hi hj
  have ri := h.range ht h0 re[i] (List.getElem_mem hi)
  have rj := h.range ht h0 re[j] (List.getElem_mem hj)
  have := hc (re[i]).toNat (by omega) (re[j]).toNat (by omega) (((num_same ht h0 hs h hi).symm.trans e).trans (num_same ht h0 hs h hj))
  rw [Int.toNat_of_nonneg ri.1, Int.toNat_of_nonneg rj.1] at this
  have nd := h.nodup
  have i1 : i < (re.map (gAt gs)).length := by simpa using hi
  have j1 : j < (re.map (gAt gs)).length := by simpa using hj
  exact (List.getElem_inj (h₀ := i1) (h₁ := j1) nd).mp (by simpa using this)
theorem num_keys {p : Plan} (ht : Tgt p) (h0 : p ≠ []) {gs re : List Int} (h : BI p gs re re.length) {r : Room} (hr : r ∈ numbered p gs re) : ∃ r' ∈ p, r.map kyOf = r'.map kyOf := by
  obtain ⟨x, hx, rfl⟩ := List.mem_map.mp hr
  have := h.range ht h0 x hx
  refine ⟨rm p x, rm_mem this.1 this.2, ?_⟩
  rw [List.map_map]; rfl
theorem num_tgt {p : Plan} (ht : Tgt p) (h0 : p ≠ []) {gs re : List Int} (h : BI p gs re re.length) : Tgt (numbered p gs re) := by
  intro r hr s hs
  obtain ⟨x, hx, rfl⟩ := List.mem_map.mp hr
  obtain ⟨y, hy, rfl⟩ := List.mem_map.mp hs
  have hg := h.has hx (List.mem_map_of_mem hy : goalOf y ∈ goals (rm p x))
  obtain ⟨k1, _, k2⟩ := posB_at hg
  rw [numbered_len]
  show 0 ≤ posB gs re (gAt gs (goalOf y)) ∧ posB gs re (gAt gs (goalOf y)) < re.length
  omega
end K

namespace K
open PySem L2 DL
local macro_rules | `(tactic| walk_at "dl") => `(tactic| with_reducible first
  | refine es_if ?_ | refine es_append ?_ | refine es_sub ?_ | refine es_par3 ?_ | refine es_parD ?_ | refine es_asg ?_ | refine es_ret ?_ | refine es_retN ?_ | refine es_next ?_ | refine es_drop ?_ | refine es_break ?_ | refine es_cont ?_
  | refine et_val ?_ | refine et_B ?_ | refine et_not ?_ | refine et_and ?_ | refine et_or ?_ | refine et_yes ?_
  | refine ev_op ?_ | refine ev_un ?_ | refine ev_cb ?_ | refine ev_tup ?_ | refine ev_lst ?_ | refine ev_ifx ?_ | refine ev_andV ?_ | refine ev_orV ?_ | refine ev_notV ?_ | refine ev_sl ?_
  | refine ea_cons ?_ | refine ea_nil ?_ | refine ev_int ?_ | refine ev_str ?_ | refine ev_bl ?_ | refine ev_non ?_ | refine eo_none ?_ | refine eo_some ?_
  | refine gts_cons ?_ | refine gts_nil ?_
  | refine o2_addI ?_ | refine o2_ltI ?_ | refine o2_leI ?_ | refine o2_gtI ?_ | refine o2_geI ?_ | refine o2_ltS ?_ | refine o2_leS ?_ | refine o2_gtS ?_ | refine o2_sub ?_
  | refine oa_intI ?_ | refine oa_intB ?_ | refine oa_abs ?_ | refine oa_two ?_ | refine ulen_R ?_ | refine ulen_T ?_ | refine ulen_L LstV.d ?_
  | (refine ⟨_, Pu.d, ?_⟩) | (refine ⟨_, Pu.ptr, ?_⟩) | (refine ⟨_, Pu.fr, ?_⟩))
local macro_rules | `(tactic| walk_at "dv") => `(tactic| first
  | refine ev_var (by rfl) ?_ | refine ev_ptr (.inl (by rfl)) ?_ | refine ev_ptr (.inr (.inl (by rfl))) ?_ | refine ev_ptr (.inr (.inr (by rfl))) ?_
  | refine uix_L (LstV.o ⟨0, .inr (by rfl)⟩) (by rfl) ?_ | refine uix_L LstV.d (by rfl) ?_ | refine uix_T (by rfl) ?_
  | refine gt_tup (by rfl) ?_ | refine gt_name (by first | exact all_in | simp) ?_ | refine ⟨_, rfl, ?_⟩)
local macro_rules | `(tactic| walk_at "e") => `(tactic| repeat (first | walk_at "dl" | walk_at "dv"))
local macro_rules | `(tactic| walk_at "d") => `(tactic| repeat (first | with_reducible refine es_seq ?_ | walk_at "dl" | walk_at "dv"))
section
variable {P : Program} {w : World} {K : PySem.W.Frag} {mg : Str → Option Value} {base : Heap}
abbrev s_alike_groups : Stmt := topS 9
abbrev N_alike_groups : List Str := ["rooms", "groups", "finer"]
theorem sc_alike_groups : FnScope N_alike_groups ["rooms"] (defScope s_alike_groups) := ⟨rfl, rfl, rfl, by decide +kernel, rfl, by decide +kernel, by decide +kernel⟩

def SAlike : List T → (RT → Prop) → Prop := fun ts P => ∃ p : Plan, p ≠ [] ∧ p.length < sizeLine ∧ (∀ r ∈ p, r.length < sizeLine) ∧ Tgt p ∧ ts = [ePlan p] ∧
  ∀ gs : List Int, gs.length = p.length → Stable p gs → (KeySame p → NodK p → Coarse p gs) → P (.d (.lst (gs.map T.int)))
theorem ok_alike {f : Addr} {fd : FuncData} (Fn : Fun K "alike_groups" "alike_groups" s_alike_groups f fd) (TX : TXF mg) (C_split_groups : Cal P w K mg base CX0 "split_groups" 1 ["rooms", "groups"] (spP ⟨P, w, K⟩ SSplit)) : FnOk P w K mg base CX0 2 f fd ["rooms"] (spP ⟨P, w, K⟩ SAlike) := by
  refine Fn.ok sc_alike_groups (fun vs H Q E h => ?_) (fun cdv A outer s H vs Q E hr h => ?_)
  · obtain ⟨F, ts, _, hd, P, ⟨_, _, _, _, _, rfl, _⟩, _⟩ := h
    rw [hd.length]; rfl
  · obtain ⟨F, ts, fh, hd, PP, ⟨p, hp0, hp1, hp2, ht, rfl, hk⟩, q⟩ := h
    have hu := hr.units
    have hz : sizeLine < 2 ^ 62 := by decide +kernel
    have hpl : 0 < p.length := List.length_pos_iff.mpr hp0
    have hsp : ∀ r ∈ p, r.length < sizeLine ∧ ∀ s ∈ r, 0 ≤ goalOf s ∧ goalOf s < p.length := fun r hr => ⟨hp2 r hr, ht r hr⟩
    refine ⟨_, (pss_cons (ps_set (i := 1) sc_alike_groups.nd rfl (Or.inl rfl) (pe_op op_rep (pe_lst (pa_cons pe_int pa_nil)) (pe_callB (call_lenB ⟨P, w, K⟩ rfl hu) (by rfl) TX.n_len (by decide +kernel) (pa_cons (pv 0) pa_nil))))
    (pss_cons (ps_set (i := 2) sc_alike_groups.nd rfl (Or.inl rfl) (pe_call C_split_groups.ok (hr.mono (by decide)) (by rfl) C_split_groups.mg C_split_groups.kp C_split_groups.bd .nil pass0 (pa_cons (pv 0) (pa_cons (pv 1) pa_nil))))
    (pss_cons (ps_while PassesOwn.never (pt_cmpR op_uGt (pe_callB (call_maxB ⟨P, w, K⟩ rfl rfl) (by rfl) TX.n_max (by decide +kernel) (pa_cons (pv 2) pa_nil)) (pe_callB (call_maxB ⟨P, w, K⟩ rfl rfl) (by rfl) TX.n_max (by decide +kernel) (pa_cons (pv 1) pa_nil)) (nomark _)) (pss_cons (ps_set (i := 1) sc_alike_groups.nd rfl (Or.inl rfl) (pv 2))
    (pss_one (ps_set (i := 2) sc_alike_groups.nd rfl (Or.inl rfl) (pe_call C_split_groups.ok (hr.mono (by decide)) (by rfl) C_split_groups.mg C_split_groups.kp C_split_groups.bd .nil pass0 (pa_cons (pv 0) (pa_cons (pv 1) pa_nil)))))))
    (pss_one (ps_ret (pv 1)))))), ?_⟩
    refine run_P (n := 2) fh hd rfl q ?_
    dsimp only [cxOf]
    refine es_seq ?_
    walk_at "e"
    refine ⟨[.int 0], rfl, (show 1 ≤ sizeLine by decide), fun p1 => ⟨_, Pu.fr, ?_⟩⟩
    walk_at "e"
    refine o2_rep LstV.d (n := (p.map eRoom).length) (by rw [List.length_map]; show 1 * p.length ≤ sizeLine; omega) (by rw [List.length_map]; omega) fun p2 => ?_
    walk_at "e"
    have e0 : (List.replicate (p.map eRoom).length [T.int 0]).flatten = (List.replicate p.length (0 : Int)).map T.int := by
      rw [List.length_map]
      generalize p.length = n
      induction n with
      | zero => rfl
      | succ n ih => rw [List.replicate_succ, List.replicate_succ, List.flatten_cons, ih]; rfl
    rw [e0]
    refine es_frz (i := 1) rfl rfl ?_
    refine es_seq ?_
    walk_at "e"
    refine ev_callPn ?_
    walk_at "e"
    refine ⟨[ePlan p, .lst ((List.replicate p.length (0 : Int)).map T.int)], rfl, p, _, by simp, hp1, hsp, rfl, fun p3 => ?_⟩
    walk_at "e"
    refine es_seq ?_
    refine es_while (fun m δ => ∃ (gs : List Int) (a : Addr), gs.length = p.length ∧ MaxOk gs ∧ Finer p.length (splitG p gs) gs ∧ (KeySame p → NodK p → Coarse p gs) ∧ m = p.length - (dst gs).length ∧ δ = [.d (ePlan p), .d (.lst (gs.map T.int)), .own a (.lst ((splitG p gs).map T.int))]) _ ⟨_, _, by simp, zero_max _ hpl, zero_finer _ _ _, fun _ _ => zero_coarse _ _, rfl, rfl⟩ ?_
    rintro m δ ⟨gs, a, hgl, hmx, hfin, hco, rfl, rfl⟩
    have hsl : (splitG p gs).length = p.length := split_len p gs
    walk_at "e"
    refine oa_max (ns := splitG p gs) (LstV.o ⟨2, .inl rfl⟩) (by omega) fun m1 hm1 ha1 => ?_
    walk_at "e"
    refine oa_max (ns := gs) LstV.d (by omega) fun m2 hm2 ha2 => ?_
    walk_at "e"
    have k1 := split_max p gs m1 hm1 ha1
    have k2 := hmx m2 hm2 ha2
    refine ite2 (fun h => ?_) (fun h => ?_)
    · have h : m2 < m1 := by simpa using h
      refine es_frz (i := 2) rfl rfl ?_
      walk_at "d"
      refine ev_callPn ?_
      walk_at "d"
      refine ⟨[ePlan p, .lst ((splitG p gs).map T.int)], rfl, p, _, split_len p gs, hp1, hsp, rfl, fun p4 => ?_⟩
      walk_at "d"
      have hd1 := dst_len (splitG p gs)
      exact ⟨_, by omega, splitG p gs, p4, split_len p gs, split_max p gs, split_finer ht hfin, fun h1 h2 => split_coarse ht h1 h2 (hco h1 h2), rfl, rfl⟩
    · have h : ¬ m2 < m1 := by simpa using h
      walk_at "e"
      exact hk gs hgl (stable_of hgl hfin (by omega)) hco
end
end K

namespace K
open PySem L2 DL
local macro_rules | `(tactic| walk_at "dl") => `(tactic| with_reducible first
  | refine es_if ?_ | refine es_append ?_ | refine es_sub ?_ | refine es_par3 ?_ | refine es_parD ?_ | refine es_asg ?_ | refine es_ret ?_ | refine es_retN ?_ | refine es_next ?_ | refine es_drop ?_ | refine es_break ?_ | refine es_cont ?_
  | refine et_val ?_ | refine et_B ?_ | refine et_not ?_ | refine et_and ?_ | refine et_or ?_ | refine et_yes ?_
  | refine ev_op ?_ | refine ev_un ?_ | refine ev_cb ?_ | refine ev_tup ?_ | refine ev_lst ?_ | refine ev_ifx ?_ | refine ev_andV ?_ | refine ev_orV ?_ | refine ev_notV ?_ | refine ev_sl ?_
  | refine ea_cons ?_ | refine ea_nil ?_ | refine ev_int ?_ | refine ev_str ?_ | refine ev_bl ?_ | refine ev_non ?_ | refine eo_none ?_ | refine eo_some ?_
  | refine gts_cons ?_ | refine gts_nil ?_
  | refine o2_addI ?_ | refine o2_ltI ?_ | refine o2_leI ?_ | refine o2_gtI ?_ | refine o2_geI ?_ | refine o2_ltS ?_ | refine o2_leS ?_ | refine o2_gtS ?_ | refine o2_sub ?_
  | refine oa_intI ?_ | refine oa_intB ?_ | refine oa_abs ?_ | refine oa_two ?_ | refine ulen_R ?_ | refine ulen_T ?_ | refine ulen_L LstV.d ?_
  | (refine ⟨_, Pu.d, ?_⟩) | (refine ⟨_, Pu.ptr, ?_⟩) | (refine ⟨_, Pu.fr, ?_⟩))
local macro_rules | `(tactic| walk_at "dv") => `(tactic| first
  | refine ev_var (by rfl) ?_ | refine ev_ptr (.inl (by rfl)) ?_ | refine ev_ptr (.inr (.inl (by rfl))) ?_ | refine ev_ptr (.inr (.inr (by rfl))) ?_
  | refine uix_L (LstV.o ⟨0, .inr (by rfl)⟩) (by rfl) ?_ | refine uix_L LstV.d (by rfl) ?_ | refine uix_T (by rfl) ?_
  | refine gt_tup (by rfl) ?_ | refine gt_name (by first | exact all_in | simp) ?_ | refine ⟨_, rfl, ?_⟩)
local macro_rules | `(tactic| walk_at "e") => `(tactic| repeat (first | walk_at "dl" | walk_at "dv"))
local macro_rules | `(tactic| walk_at "d") => `(tactic| repeat (first | with_reducible refine es_seq ?_ | walk_at "dl" | walk_at "dv"))
section
variable {P : Program} {w : World} {K : PySem.W.Frag} {mg : Str → Option Value} {base : Heap}
abbrev s_numbered_rooms : Stmt := topS 11
abbrev N_numbered_rooms : List Str := ["rooms", "groups", "numbers", "reached", "at", "steps", "step", "group", "index", "sign", "line", "word", "room"]
theorem sc_numbered_rooms : FnScope N_numbered_rooms ["rooms", "groups"] (defScope s_numbered_rooms) := ⟨rfl, rfl, rfl, by decide +kernel, rfl, by decide +kernel, by decide +kernel⟩

theorem atI_int {l : List T} {j : Int} {t : T} (h0 : 0 ≤ j) (h : l[j.toNat]? = some t) : atI l j = some t := by
  obtain ⟨n, rfl⟩ := Int.eq_ofNat_of_zero_le h0
  exact atI_nat (by simpa using h)
theorem gs_at {gs : List Int} {j : Int} (h0 : 0 ≤ j) (h1 : j < gs.length) : atI (gs.map T.int) j = some (.int (gAt gs j)) := by
  refine atI_int h0 ?_
  have : j.toNat < gs.length := by omega
  unfold gAt; simp [this]
theorem rm_at {p : Plan} {j : Int} (h0 : 0 ≤ j) (h1 : j < p.length) : atI (p.map eRoom) j = some (eRoom (rm p j)) := by
  refine atI_int h0 ?_
  rw [List.getElem?_map, rm_get h0 h1]; rfl
theorem putM_new {α β : Type} [DecidableEq α] {m : List (α × β)} {a : α} {b : β} (h : getM m a = none) : putM m a b = m ++ [(a, b)] := by unfold putM; rw [h]; rfl
def SNumbered : List T → (RT → Prop) → Prop := fun ts P => ∃ (p : Plan) (gs : List Int), p ≠ [] ∧ p.length < sizeLine ∧ (∀ r ∈ p, r.length < sizeLine) ∧ Tgt p ∧ gs.length = p.length ∧ ts = [ePlan p, .lst (gs.map T.int)] ∧
  ∀ re, BI p gs re re.length → P (.new (.lst ((numbered p gs re).map eRoom)))
theorem ok_numbered {f : Addr} {fd : FuncData} (Fn : Fun K "numbered_rooms" "numbered_rooms" s_numbered_rooms f fd) (TX : TXF mg) : FnOk P w K mg base CX0 1 f fd ["rooms", "groups"] (spP ⟨P, w, K⟩ SNumbered) := by
  refine Fn.ok sc_numbered_rooms (fun vs H Q E h => ?_) (fun cdv A outer s H vs Q E hr h => ?_)
  · obtain ⟨F, ts, _, hd, P, ⟨_, _, _, _, _, _, _, rfl, _⟩, _⟩ := h
    rw [hd.length]; rfl
  · obtain ⟨F, ts, fh, hd, PP, ⟨p, gs, hp0, hp1, hp2, ht, hgl, rfl, hk⟩, q⟩ := h
    have hu := hr.units
    have hz : sizeLine < 2 ^ 62 := by decide +kernel
    have hpl : 0 < p.length := List.length_pos_iff.mpr hp0
    refine ⟨_, (pss_cons (ps_set (i := 2) sc_numbered_rooms.nd rfl (Or.inr rfl) (pe_disp (pps_cons (pe_ix (ix_B ⟨P, w, K⟩ rfl hu) (pv 1) pe_int (fun _ _ => rfl)) pe_int pps_nil) rfl rfl (by decide) (by decide)))
    (pss_cons (ps_set (i := 3) sc_numbered_rooms.nd rfl (Or.inl rfl) (pe_lst (pa_cons pe_int pa_nil)))
    (pss_cons (ps_set (i := 4) sc_numbered_rooms.nd rfl (Or.inl rfl) pe_int)
    (pss_cons (ps_while PassesOwn.never (pt_cmpR op_uLt (pv 4) (pe_callB (call_lenB ⟨P, w, K⟩ rfl hu) (by rfl) TX.n_len (by decide +kernel) (pa_cons (pv 3) pa_nil)) (nomark _)) (pss_cons (ps_set (i := 5) sc_numbered_rooms.nd rfl (Or.inl rfl) (pe_ix (ix_B ⟨P, w, K⟩ rfl hu) (pv 0) (pe_ix (ix_B ⟨P, w, K⟩ rfl hu) (pv 3) (pv 4) (fun _ _ => rfl)) (fun _ _ => rfl)))
    (pss_cons (ps_for PassesOwn.never rfl (pi_listB ⟨P, w, K⟩ rfl (pv 5)) (pg_name (i := 6) sc_numbered_rooms.nd rfl (Or.inl rfl)) (pss_cons (ps_set (i := 7) sc_numbered_rooms.nd rfl (Or.inl rfl) (pe_ix (ix_B ⟨P, w, K⟩ rfl hu) (pv 1) (pe_ix (ix_B ⟨P, w, K⟩ rfl hu) (pv 6) pe_int (fun _ _ => rfl)) (fun _ _ => rfl)))
    (pss_one (ps_if (pt_cmpR (op_notInB ⟨P, w, K⟩ rfl hu) (pv 7) (pv 2) (by with_unfolding_all rfl)) (pss_cons (ps_asg (pe_callB (call_lenB ⟨P, w, K⟩ rfl hu) (by rfl) TX.n_len (by decide +kernel) (pa_cons (pv 2) pa_nil)) (pg_sub (pv 2) (pv 7) (set_B ⟨P, w, K⟩ rfl hu)))
    (pss_one (ps_expr (pe_bm PySem.F.plainAttrs_list PySem.F.slot_list_append PySem.F.type_list_append mt_append (pv 3) (pa_cons (pe_ix (ix_B ⟨P, w, K⟩ rfl hu) (pv 6) pe_int (fun _ _ => rfl)) pa_nil))))) pss_nil))))
    (pss_one (ps_aug (i := 4) sc_numbered_rooms.nd rfl (Or.inl rfl) pe_int ip_add)))))
    (pss_one (ps_ret (pe_lc (own := [("index", 8)]) (by rfl) sc_numbered_rooms.nd (pi_listB ⟨P, w, K⟩ rfl (pv 3)) (blkOk_by (N := N_numbered_rooms) (sc := defScope s_numbered_rooms) (by decide +kernel)) (fun _ _ _ _ _ => (pg_name (i := 8) sc_numbered_rooms.nd rfl (Or.inl rfl))) (fun _ _ _ _ _ => pts_nil) (fun _ _ _ _ _ => (pe_lc (own := [("sign", 9), ("line", 10), ("word", 11), ("room", 12)]) (by rfl) sc_numbered_rooms.nd (pi_listB ⟨P, w, K⟩ rfl (pe_ix (ix_B ⟨P, w, K⟩ rfl hu) (pv 0) (pv 8) (fun _ _ => rfl))) (blkOk_by (N := N_numbered_rooms) (sc := _) (by rfl)) (fun _ _ _ _ _ => (pg_tupB ⟨P, w, K⟩ rfl 4 rfl (pgs_cons (pg_name (i := 9) sc_numbered_rooms.nd rfl (Or.inl rfl)) (pgs_cons (pg_name (i := 10) sc_numbered_rooms.nd rfl (Or.inl rfl)) (pgs_cons (pg_name (i := 11) sc_numbered_rooms.nd rfl (Or.inl rfl)) (pgs_cons (pg_name (i := 12) sc_numbered_rooms.nd rfl (Or.inl rfl)) pgs_nil)))))) (fun _ _ _ _ _ => pts_nil) (fun _ _ _ _ _ => (pe_tup (pa_cons (pv 9) (pa_cons (pv 10) (pa_cons (pv 11) (pa_cons (pe_ix (ix_B ⟨P, w, K⟩ rfl hu) (pv 2) (pe_ix (ix_B ⟨P, w, K⟩ rfl hu) (pv 1) (pv 12) (fun _ _ => rfl)) (fun _ _ => rfl)) pa_nil))))))))))))))), ?_⟩
    refine run_P (n := 11) fh hd rfl q ?_
    dsimp only [cxOf]
    refine es_seq ?_
    walk_at "e"
    refine ev_disp1 intA T.int ?_
    walk_at "e"
    refine uix_L LstV.d (gs_at (j := 0) (by decide) (by omega)) ?_
    refine ⟨gAt gs 0, rfl, ?_⟩
    walk_at "e"
    intro a
    walk_at "e"
    refine es_seq ?_
    walk_at "e"
    refine ⟨[.int 0], rfl, (show 1 ≤ sizeLine by decide), fun b => ?_⟩
    walk_at "e"
    refine es_seq ?_
    walk_at "e"
    refine es_seqJ (fun δ => ∃ (re : List Int) (x5 x6 x7 x4 : SV), BI p gs re re.length ∧ δ = [.d (ePlan p), .d (.lst (gs.map T.int)), .own a (.K intA T.int (numD (re.map (gAt gs)))), .own b (.lst (re.map T.int)), x4, x5, x6, x7, .no, .no, .no, .no, .no]) ?_ ?_
    · refine es_while (fun m δ => ∃ (re : List Int) (i : Nat) (x5 x6 x7 : SV), BI p gs re i ∧ m = p.length - i ∧ δ = [.d (ePlan p), .d (.lst (gs.map T.int)), .own a (.K intA T.int (numD (re.map (gAt gs)))), .own b (.lst (re.map T.int)), .d (.int i), x5, x6, x7, .no, .no, .no, .no, .no]) _ ⟨[0], 0, _, _, _, BI.start p gs, rfl, rfl⟩ ?_
      rintro m δ ⟨re, i, x5, x6, x7, hb, rfl, rfl⟩
      have hrl := hb.len ht hp0
      walk_at "e"
      refine ulen_L (LstV.o ⟨3, .inl rfl⟩) ?_
      walk_at "e"
      refine ite2 (fun h => ?_) (fun h => ?_)
      · have hi : i < re.length := by simpa using h
        have hri := hb.range ht hp0 re[i] (List.getElem_mem hi)
        have hrmem := rm_mem hri.1 hri.2
        obtain ⟨hnx, zs, hzs⟩ := hb.next hi
        refine es_seq ?_
        walk_at "e"
        refine uix_L (LstV.o ⟨3, .inl rfl⟩) (t := .int re[i]) (atI_nat (by simp [hi])) ?_
        walk_at "e"
        refine uix_L LstV.d (rm_at hri.1 hri.2) ?_
        walk_at "e"
        refine es_seqJ (fun δ => ∃ (x6 x7 : SV), δ = [.d (ePlan p), .d (.lst (gs.map T.int)), .own a (.K intA T.int (numD (((goals (rm p re[i])).foldl (addR gs) re).map (gAt gs)))), .own b (.lst (((goals (rm p re[i])).foldl (addR gs) re).map T.int)), .d (.int i), .d (eRoom (rm p re[i])), x6, x7, .no, .no, .no, .no, .no]) ?_ ?_
        · refine es_forI (ei_L ?_)
          walk_at "e"
          refine ⟨fun j δ => ∃ (x6 x7 : SV), δ = [.d (ePlan p), .d (.lst (gs.map T.int)), .own a (.K intA T.int (numD (((goals ((rm p re[i]).take j)).foldl (addR gs) re).map (gAt gs)))), .own b (.lst (((goals ((rm p re[i]).take j)).foldl (addR gs) re).map T.int)), .d (.int i), .d (eRoom (rm p re[i])), x6, x7, .no, .no, .no, .no, .no], ⟨_, _, rfl⟩, fun _ _ _ => trivial, ?_, ?_⟩
          · rintro j t δ htj ⟨x6, x7, rfl⟩
            rw [List.getElem?_map] at htj
            obtain ⟨st, hst, rfl⟩ := Option.map_eq_some_iff.mp htj
            have hgl2 := ht _ hrmem st (List.mem_of_getElem? hst)
            have hstep : (goals ((rm p re[i]).take (j + 1))).foldl (addR gs) re = addR gs ((goals ((rm p re[i]).take j)).foldl (addR gs) re) (goalOf st) := by
              rw [List.take_add_one, hst]
              unfold goals
              rw [List.map_append, List.foldl_append]; rfl
            have hlen : ((goals ((rm p re[i]).take j)).foldl (addR gs) re).length < sizeLine := by
              have h1 := hnx.len ht hp0
              have h2 : ((goals ((rm p re[i]).take j)).foldl (addR gs) re).length ≤ ((goals (rm p re[i])).foldl (addR gs) re).length := by
                have e1 : goals (rm p re[i]) = goals ((rm p re[i]).take j) ++ goals ((rm p re[i]).drop j) := by
                  unfold goals; rw [← List.map_append, List.take_append_drop]
                rw [e1, List.foldl_append]
                generalize (goals ((rm p re[i]).take j)).foldl (addR gs) re = u
                generalize goals ((rm p re[i]).drop j) = v
                induction v generalizing u with
                | nil => exact Nat.le_refl _
                | cons x v ih =>
                  rw [List.foldl_cons]
                  refine Nat.le_trans ?_ (ih _)
                  unfold addR; split
                  · exact Nat.le_refl _
                  · rw [List.length_append]; omega
              omega
            generalize (goals ((rm p re[i]).take j)).foldl (addR gs) re = u at hlen hstep
            obtain ⟨s1, s2, s3, s4⟩ := st
            unfold eS
            dsimp only
            have g0 : 0 ≤ s4 := hgl2.1
            have g1 : s4 < p.length := hgl2.2
            walk_at "d"
            refine uix_L LstV.d (gs_at g0 (by omega)) ?_
            walk_at "d"
            refine uni_K (ka := intA) (ev := T.int) (k := gAt gs s4) (m := numD (u.map (gAt gs))) (DckV.o ⟨2, .inl rfl⟩) ?_
            refine ⟨_, rfl, ?_⟩
            by_cases hin : gAt gs s4 ∈ u.map (gAt gs)
            · obtain ⟨z, hs⟩ : ∃ z, getM (numD (u.map (gAt gs))) (gAt gs s4) = some z := ⟨_, by rw [getM_numD, if_pos hin]⟩
              rw [hs]
              have hstep := hstep.trans (if_pos hin)
              refine ite2 (fun h => nomatch h) (fun _ => ?_)
              walk_at "d"
              refine ⟨.d (eS (s1, s2, s3, s4)), .d (.int (gAt gs s4)), ?_⟩
              rw [hstep]; rfl
            · have hs : getM (numD (u.map (gAt gs))) (gAt gs s4) = none := by rw [getM_numD, if_neg hin]
              rw [hs]
              have hstep := hstep.trans (if_neg hin)
              refine ite2 (fun _ => ?_) (fun h => absurd rfl h)
              walk_at "d"
              refine ulen_K (ka := intA) (ev := T.int) (m := numD (u.map (gAt gs))) (DckV.o ⟨2, .inl rfl⟩) ?_
              walk_at "d"
              refine o3_K (ka := intA) (ev := T.int) (k := gAt gs s4) (x := ((numD (u.map (gAt gs))).length : Int)) (m := numD (u.map (gAt gs))) 2 rfl (by rw [numD_len, List.length_map]; exact hlen) ?_
              walk_at "d"
              refine ⟨⟨_, 3, .inl rfl⟩, ?_⟩
              walk_at "d"
              refine appO 3 (ts := u.map T.int) rfl (by rw [List.length_map]; exact hlen) ?_
              refine ⟨.d (eS (s1, s2, s3, s4)), .d (.int (gAt gs s4)), ?_⟩
              rw [hstep, putM_new hs, List.map_append, List.map_cons, List.map_nil, numD_snoc, numD_len, List.map_append]
              rfl
          · rintro δ ⟨x6, x7, rfl⟩
            rw [List.length_map, List.take_length]
            exact ⟨_, _, rfl⟩
        · rintro δ ⟨x6, x7, rfl⟩
          refine es_augI (x := i) rfl ?_
          walk_at "d"
          exact ⟨_, by have := hnx.len ht hp0; have := hnx.le; omega, _, i + 1, _, _, _, hnx, rfl, rfl⟩
      · have hi : ¬ i < re.length := by simpa using h
        have := hb.le
        have e : i = re.length := by omega
        subst e
        exact ⟨re, _, _, _, _, hb, rfl⟩
    · rintro δ ⟨re, x5, x6, x7, x4, hb, rfl⟩
      have hrl := hb.len ht hp0
      walk_at "e"
      refine ev_lcI (ei_O ?_)
      walk_at "e"
      refine ⟨b, _, rfl, ⟨3, .inl rfl⟩, by rw [List.length_map]; omega, fun i acc δ => acc = ((re.take i).map fun r => (rm p r).map (setG fun j => posB gs re (gAt gs j))).map eRoom ∧ δ = [.d (ePlan p), .d (.lst (gs.map T.int)), .own a (.K intA T.int (numD (re.map (gAt gs)))), .own b (.lst (re.map T.int)), x4, x5, x6, x7, .no, .no, .no, .no, .no], ⟨by simp, rfl⟩, ?_, ?_, ?_⟩
      · rintro i acc δ ⟨_, rfl⟩; exact ⟨3, .inl rfl⟩
      · rintro i t acc δ hti _ ⟨rfl, rfl⟩
        rw [List.getElem?_map] at hti
        obtain ⟨r, hr', rfl⟩ := Option.map_eq_some_iff.mp hti
        have hrr := hb.range ht hp0 r (List.mem_of_getElem? hr')
        have hrmem := rm_mem hrr.1 hrr.2
        walk_at "d"
        refine ite2 (fun _ => ?_) (fun h => nomatch h)
        refine ev_lcI (ei_L ?_)
        walk_at "d"
        refine uix_L LstV.d (rm_at hrr.1 hrr.2) ?_
        walk_at "d"
        refine ⟨by rw [List.length_map]; exact Nat.le_of_lt (hp2 _ hrmem), fun j acc δ => acc = (((rm p r).take j).map (setG fun j => posB gs re (gAt gs j))).map eS ∧ δ = [.d (ePlan p), .d (.lst (gs.map T.int)), .own a (.K intA T.int (numD (re.map (gAt gs)))), .own b (.lst (re.map T.int)), x4, x5, x6, x7, .d (.int r), .no, .no, .no, .no], ⟨by simp, rfl⟩, fun _ _ _ _ => trivial, ?_, ?_⟩
        · rintro j t acc δ htj _ ⟨rfl, rfl⟩
          rw [List.getElem?_map] at htj
          obtain ⟨⟨s1, s2, s3, s4⟩, hst, rfl⟩ := Option.map_eq_some_iff.mp htj
          have hs4 := ht _ hrmem _ (List.mem_of_getElem? hst)
          have g0 : 0 ≤ s4 := hs4.1
          have g1 : s4 < p.length := hs4.2
          have hin := hb.has (List.mem_of_getElem? hr') (List.mem_map_of_mem (f := goalOf) (List.mem_of_getElem? hst))
          unfold eS
          dsimp only
          walk_at "d"
          refine ite2 (fun _ => ?_) (fun h => nomatch h)
          walk_at "d"
          refine uix_L LstV.d (gs_at g0 (by omega)) ?_
          walk_at "d"
          refine uix_K (ka := intA) (ev := T.int) (k := gAt gs s4) (b := posB gs re (gAt gs s4)) (m := numD (re.map (gAt gs))) (DckV.o ⟨2, .inl rfl⟩) (by rw [getM_numD, if_pos (show gAt gs s4 ∈ re.map (gAt gs) from hin)]; rfl) ?_
          walk_at "d"
          refine ⟨[.str s1, .str s2, .str s3, .int (posB gs re (gAt gs s4))], rfl, (show 4 ≤ sizeLine by decide), ?_⟩
          walk_at "d"
          refine ⟨?_, rfl⟩
          rw [List.take_add_one, hst]; simp [setG, eS, goalOf]
        · rintro acc δ _ ⟨rfl, rfl⟩ p2
          rw [List.length_map, List.take_length]
          refine ⟨_, Pu.fr, ?_, rfl⟩
          rw [List.take_add_one, hr']; simp [eRoom]
      · rintro acc δ _ ⟨rfl, rfl⟩ p3
        rw [List.length_map, List.take_length]
        exact hk re hb
end
end K

namespace K
open PySem L2 DL
local macro_rules | `(tactic| walk_at "dl") => `(tactic| with_reducible first
  | refine es_if ?_ | refine es_append ?_ | refine es_sub ?_ | refine es_par3 ?_ | refine es_parD ?_ | refine es_asg ?_ | refine es_ret ?_ | refine es_retN ?_ | refine es_next ?_ | refine es_drop ?_ | refine es_break ?_ | refine es_cont ?_
  | refine et_val ?_ | refine et_B ?_ | refine et_not ?_ | refine et_and ?_ | refine et_or ?_ | refine et_yes ?_
  | refine ev_op ?_ | refine ev_un ?_ | refine ev_cb ?_ | refine ev_tup ?_ | refine ev_lst ?_ | refine ev_ifx ?_ | refine ev_andV ?_ | refine ev_orV ?_ | refine ev_notV ?_ | refine ev_sl ?_
  | refine ea_cons ?_ | refine ea_nil ?_ | refine ev_int ?_ | refine ev_str ?_ | refine ev_bl ?_ | refine ev_non ?_ | refine eo_none ?_ | refine eo_some ?_
  | refine gts_cons ?_ | refine gts_nil ?_
  | refine o2_addI ?_ | refine o2_ltI ?_ | refine o2_leI ?_ | refine o2_gtI ?_ | refine o2_geI ?_ | refine o2_ltS ?_ | refine o2_leS ?_ | refine o2_gtS ?_ | refine o2_sub ?_
  | refine oa_intI ?_ | refine oa_intB ?_ | refine oa_abs ?_ | refine oa_two ?_ | refine ulen_R ?_ | refine ulen_T ?_ | refine ulen_L LstV.d ?_
  | (refine ⟨_, Pu.d, ?_⟩) | (refine ⟨_, Pu.ptr, ?_⟩) | (refine ⟨_, Pu.fr, ?_⟩))
local macro_rules | `(tactic| walk_at "dv") => `(tactic| first
  | refine ev_var (by rfl) ?_ | refine ev_ptr (.inl (by rfl)) ?_ | refine ev_ptr (.inr (.inl (by rfl))) ?_ | refine ev_ptr (.inr (.inr (by rfl))) ?_
  | refine uix_L (LstV.o ⟨0, .inr (by rfl)⟩) (by rfl) ?_ | refine uix_L LstV.d (by rfl) ?_ | refine uix_T (by rfl) ?_
  | refine gt_tup (by rfl) ?_ | refine gt_name (by first | exact all_in | simp) ?_ | refine ⟨_, rfl, ?_⟩)
local macro_rules | `(tactic| walk_at "e") => `(tactic| repeat (first | walk_at "dl" | walk_at "dv"))
local macro_rules | `(tactic| walk_at "d") => `(tactic| repeat (first | with_reducible refine es_seq ?_ | walk_at "dl" | walk_at "dv"))
section
variable {P : Program} {w : World} {K : PySem.W.Frag} {mg : Str → Option Value} {base : Heap}
abbrev s_least_rooms : Stmt := topS 8
abbrev N_least_rooms : List Str := ["rooms", "ordered", "steps"]
theorem sc_least_rooms : FnScope N_least_rooms ["rooms"] (defScope s_least_rooms) := ⟨rfl, rfl, rfl, by decide +kernel, rfl, by decide +kernel, by decide +kernel⟩

theorem units66 {k : Nat} {A : Around} (r : L2.Room k A) : A.units + 66 < cLine := by have := r.un; omega
def srt (r : Room) : Room := r.mergeSort fun a b => PySem.W.dataLe false dS a b
def ordered (p : Plan) : Plan := p.map srt
theorem srt_perm (r : Room) : (srt r).Perm r := List.mergeSort_perm _ _
theorem ordered_len (p : Plan) : (ordered p).length = p.length := by simp [ordered]
theorem ordered_mem {p : Plan} {r : Room} (h : r ∈ ordered p) : ∃ r' ∈ p, r.Perm r' := by
  obtain ⟨r', hr, rfl⟩ := List.mem_map.mp h
  exact ⟨r', hr, srt_perm r'⟩
theorem ordered_tgt {p : Plan} (h : GoodPlan p) : Tgt (ordered p) := fun r hr s hs => by
  obtain ⟨r', hr', hp⟩ := ordered_mem hr
  have := ((h.2 r' hr').2.1 s (hp.mem_iff.mp hs)).2.2.2
  rw [ordered_len]; exact this
theorem ordered_nodk {p : Plan} (h : GoodPlan p) : NodK (ordered p) := fun r hr => by
  obtain ⟨r', hr', hp⟩ := ordered_mem hr
  exact (hp.map kyOf).nodup_iff.mpr (h.2 r' hr').2.2
/-- the least rooms of p as the program finds them -/
structure LeastOf (p q : Plan) : Prop where
  ex : ∃ gs re, gs.length = p.length ∧ Stable (ordered p) gs ∧ (KeySame (ordered p) → Coarse (ordered p) gs) ∧ BI (ordered p) gs re re.length ∧ q = numbered (ordered p) gs re
theorem LeastOf.rows {p q : Plan} (h : LeastOf p q) (hg : GoodPlan p) (h0 : p ≠ []) (ks : List K3) : goRow q 0 ks = goRow p 0 ks := by
  obtain ⟨gs, re, _, hs, _, hb, rfl⟩ := h.ex
  have h0' : ordered p ≠ [] := fun e => h0 (List.map_eq_nil_iff.mp e)
  rw [num_rows (ordered_tgt hg) h0' hs hb]
  exact row_perm (fun r _ => srt_perm r) (fun r hr => (hg.2 r hr).2.2) ks 0
theorem LeastOf.good {p q : Plan} (h : LeastOf p q) (hg : GoodPlan p) (h0 : p ≠ []) : GoodPlan q ∧ q ≠ [] ∧ q.length ≤ p.length := by
  obtain ⟨gs, re, _, hs, _, hb, rfl⟩ := h.ex
  have h0' : ordered p ≠ [] := fun e => h0 (List.map_eq_nil_iff.mp e)
  have ht := ordered_tgt hg
  have hl := hb.len ht h0'
  rw [ordered_len] at hl
  have htq := num_tgt ht h0' hb
  refine ⟨⟨by rw [numbered_len]; exact Nat.lt_of_le_of_lt hl hg.1, fun r hr => ?_⟩, (num_can hb).ne, by rw [numbered_len]; exact hl⟩
  have hr0 := hr
  obtain ⟨x, hx, rfl⟩ := List.mem_map.mp hr
  have hxr := hb.range ht h0' x hx
  obtain ⟨r', hr', hp⟩ := ordered_mem (rm_mem hxr.1 hxr.2)
  have hgr := hg.2 r' hr'
  refine ⟨by rw [List.length_map, hp.length_eq]; exact hgr.1, fun s hs => ?_, ?_⟩
  · have hsg := htq _ hr0 s hs
    obtain ⟨y, hy, rfl⟩ := List.mem_map.mp hs
    obtain ⟨g1, g2, g3, _⟩ := hgr.2.1 y (hp.mem_iff.mp hy)
    exact ⟨g1, g2, g3, hsg⟩
  · rw [List.map_map]
    exact (hp.map kyOf).nodup_iff.mpr hgr.2.2
theorem GoodPlan.closed {p : Plan} (h : GoodPlan p) (h0 : p ≠ []) : Closed p := ⟨h0, fun r hr => ⟨(h.2 r hr).1, fun s hs => ((h.2 r hr).2.1 s hs).2.2.2⟩⟩
def SLeast : List T → (RT → Prop) → Prop := fun ts P => ∃ p : Plan, GoodPlan p ∧ p ≠ [] ∧ ts = [ePlan p] ∧ ∀ q, LeastOf p q → P (.new (.lst (q.map eRoom)))
theorem ok_least {f : Addr} {fd : FuncData} (Fn : Fun K "least_rooms" "least_rooms" s_least_rooms f fd) (TX : TXF mg) (C_alike_groups : Cal P w K mg base CX0 "alike_groups" 2 ["rooms"] (spP ⟨P, w, K⟩ SAlike)) (C_numbered_rooms : Cal P w K mg base CX0 "numbered_rooms" 1 ["rooms", "groups"] (spP ⟨P, w, K⟩ SNumbered)) : FnOk P w K mg base CX0 3 f fd ["rooms"] (spP ⟨P, w, K⟩ SLeast) := by
  refine Fn.ok sc_least_rooms (fun vs H Q E h => ?_) (fun cdv A outer s H vs Q E hr h => ?_)
  · obtain ⟨F, ts, _, hd, P, ⟨_, _, _, rfl, _⟩, _⟩ := h
    rw [hd.length]; rfl
  · obtain ⟨F, ts, fh, hd, PP, ⟨p, hg, hp0, rfl, hk⟩, q⟩ := h
    have hu := hr.units
    have hu66 := units66 hr
    have h0' : ordered p ≠ [] := fun e => hp0 (List.map_eq_nil_iff.mp e)
    have hsz : ∀ r ∈ ordered p, r.length < sizeLine := fun r hr => by
      obtain ⟨r', hr', hp⟩ := ordered_mem hr
      rw [hp.length_eq]; exact (hg.2 r' hr').1
    refine ⟨_, (pss_cons (ps_setLc (i := 1) (own := [("steps", 2)]) (by rfl) sc_least_rooms.nd rfl rfl (sw_true rfl rfl rfl (by decide +kernel)) (pi_listB ⟨P, w, K⟩ rfl (pv 0)) (blkOk_by (N := N_least_rooms) (sc := defScope s_least_rooms) (by decide +kernel)) (fun _ _ _ _ _ => (pg_name (i := 2) sc_least_rooms.nd rfl (Or.inl rfl))) (fun _ _ _ _ _ => pts_nil) (fun _ _ _ _ _ => (pe_callB (call_sortedB ⟨P, w, K⟩ rfl hu66) (by rfl) TX.n_sorted (by decide +kernel) (pa_cons (pv 2) pa_nil))))
    (pss_one (ps_ret (pe_call C_numbered_rooms.ok (hr.mono (by decide)) (by rfl) C_numbered_rooms.mg C_numbered_rooms.kp C_numbered_rooms.bd .nil pass0 (pa_cons (pv 1) (pa_cons (pe_call C_alike_groups.ok (hr.mono (by decide)) (by rfl) C_alike_groups.mg C_alike_groups.kp C_alike_groups.bd .nil pass0 (pa_cons (pv 1) pa_nil)) pa_nil)))))), ?_⟩
    refine run_P (n := 2) fh hd rfl q ?_
    dsimp only [cxOf]
    refine es_seq ?_
    walk_at "e"
    refine ev_lcI (ei_L ?_)
    walk_at "e"
    refine ⟨by rw [List.length_map]; exact Nat.le_of_lt hg.1, fun i acc δ => acc = ((p.take i).map srt).map eRoom ∧ δ = [.d (ePlan p), .no, .no], ⟨by simp, rfl⟩, fun _ _ _ _ => trivial, ?_, ?_⟩
    · rintro i t acc δ hti _ ⟨rfl, rfl⟩
      rw [List.getElem?_map] at hti
      obtain ⟨r, hr', rfl⟩ := Option.map_eq_some_iff.mp hti
      walk_at "d"
      refine ite2 (fun _ => ?_) (fun h => nomatch h)
      walk_at "d"
      refine oa_sorted (e := eS) dS (xs := r) LstV.d eS_py (PySem.W.AllAlike.of fun _ _ => by simp [PySem.W.alike, PySem.W.alikeAll, dS]) (PySem.W.Sortable.tuples fun _ => ⟨_, _, rfl⟩) (fun a => by rw [dS_depth]; decide) fun p1 => ?_
      refine ⟨_, Pu.fr, ?_, rfl⟩
      rw [List.take_add_one, hr']; simp [srt, eRoom]
    · rintro acc δ _ ⟨rfl, rfl⟩ p2
      rw [List.length_map, List.take_length]
      refine gt_name all_in ?_
      refine es_frz (i := 1) rfl rfl ?_
      walk_at "e"
      refine ev_callPn ?_
      walk_at "e"
      refine ev_callPn ?_
      walk_at "e"
      refine ⟨[ePlan (ordered p)], rfl, ordered p, h0', by rw [ordered_len]; exact hg.1, hsz, ordered_tgt hg, rfl, fun gs hgl hs hc => ?_⟩
      refine ⟨_, Pu.d, ea_nil ?_⟩
      refine ⟨[ePlan (ordered p), .lst (gs.map T.int)], rfl, ordered p, gs, h0', by rw [ordered_len]; exact hg.1, hsz, ordered_tgt hg, hgl, rfl, fun re hb p3 => ?_⟩
      exact hk _ ⟨gs, re, by rw [hgl, ordered_len], hs, fun h => hc h (ordered_nodk hg), hb, rfl⟩
abbrev s_Service___init__ : Stmt := inClass (topS 20) 0
abbrev N_Service___init__ : List Str := ["self", "rooms"]
theorem sc_Service___init__ : FnScope N_Service___init__ ["self", "rooms"] (defScope s_Service___init__) := ⟨rfl, rfl, rfl, by decide +kernel, rfl, by decide +kernel, by decide +kernel⟩

def SInit (C : Addr) : OW → List T → (OW → RT → Prop) → Prop := fun us ts P => ∃ (dx : Addr) (p : Plan), us = .ins C dx [] [] ∧ GoodPlan p ∧ p ≠ [] ∧ ts = [ePlan p] ∧ ∀ q, LeastOf p q → P (.ins C dx ["_rooms"] [ePlan q]) (.d .non)
theorem ok_init {f C : Addr} {fd : FuncData} (Fn : Fun K "__init__" "Service.__init__" s_Service___init__ f fd) (TX : TXF mg) (hC : Cls K C) (hR : NoAttr K C "_rooms") (C_check_rooms : Cal P w K mg base CX0 "check_rooms" 3 ["rooms"] (spP ⟨P, w, K⟩ SCheckRooms)) (C_least_rooms : Cal P w K mg base CX0 "least_rooms" 3 ["rooms"] (spP ⟨P, w, K⟩ SLeast)) : FnOk P w K mg base CX0 4 f fd ["self", "rooms"] (spM ⟨P, w, K⟩ (SInit C)) := by
  refine Fn.ok sc_Service___init__ (fun vs H Q E h => ?_) (fun cdv A outer s H vs Q E hr h => ?_)
  · obtain ⟨F, m, ws, us, ts, rfl, _, _, _, hd, P, ⟨_, _, _, _, _, rfl, _⟩, _⟩ := h
    rw [List.length_cons, hd.length]; rfl
  · obtain ⟨F, m, ws, us, ts, rfl, fh, fm, hm, hd, PP, ⟨dx, p, rfl, hg, hp0, rfl, hk⟩, q⟩ := h
    have hu := hr.units
    refine ⟨_, (pss_cons (ps_expr (pe_call C_check_rooms.ok (hr.mono (by decide)) (by rfl) C_check_rooms.mg C_check_rooms.kp C_check_rooms.bd .nil pass0 (pa_cons (pv 1) pa_nil)))
    (pss_one (ps_fld (pv 0) (pe_call C_least_rooms.ok (hr.mono (by decide)) (by rfl) C_least_rooms.mg C_least_rooms.kp C_least_rooms.bd .nil pass0 (pa_cons (pv 1) pa_nil)) (by rfl)))), ?_⟩
    refine run_M (n := 0) fh fm hm hd rfl q ?_
    dsimp only [cxOf]
    refine es_seq ?_
    walk_at "e"
    refine ev_callPn ?_
    walk_at "e"
    refine ⟨[ePlan p], rfl, p, hg, rfl, ?_⟩
    refine es_fld0 (dx := dx) hC hR ?_
    refine ev_callPn ?_
    walk_at "e"
    refine ⟨[ePlan p], rfl, p, hg, hp0, rfl, fun q' hl p1 => ?_⟩
    refine ⟨ePlan q', Pu.fr, ?_⟩
    refine ev_ptr (.inr (.inl (by rfl))) ?_
    refine ⟨m, rfl, 0, rfl, ?_⟩
    exact ⟨_, rfl, hk q' hl⟩
end
end K

namespace K
open PySem L2 DL
local macro_rules | `(tactic| walk_at "dl") => `(tactic| with_reducible first
  | refine es_if ?_ | refine es_append ?_ | refine es_sub ?_ | refine es_par3 ?_ | refine es_parD ?_ | refine es_asg ?_ | refine es_ret ?_ | refine es_retN ?_ | refine es_next ?_ | refine es_drop ?_ | refine es_break ?_ | refine es_cont ?_
  | refine et_val ?_ | refine et_B ?_ | refine et_not ?_ | refine et_and ?_ | refine et_or ?_ | refine et_yes ?_
  | refine ev_op ?_ | refine ev_un ?_ | refine ev_cb ?_ | refine ev_tup ?_ | refine ev_lst ?_ | refine ev_ifx ?_ | refine ev_andV ?_ | refine ev_orV ?_ | refine ev_notV ?_ | refine ev_sl ?_
  | refine ea_cons ?_ | refine ea_nil ?_ | refine ev_int ?_ | refine ev_str ?_ | refine ev_bl ?_ | refine ev_non ?_ | refine eo_none ?_ | refine eo_some ?_
  | refine gts_cons ?_ | refine gts_nil ?_
  | refine o2_addI ?_ | refine o2_ltI ?_ | refine o2_leI ?_ | refine o2_gtI ?_ | refine o2_geI ?_ | refine o2_ltS ?_ | refine o2_leS ?_ | refine o2_gtS ?_ | refine o2_sub ?_
  | refine oa_intI ?_ | refine oa_intB ?_ | refine oa_abs ?_ | refine oa_two ?_ | refine ulen_R ?_ | refine ulen_T ?_ | refine ulen_L LstV.d ?_
  | (refine ⟨_, Pu.d, ?_⟩) | (refine ⟨_, Pu.ptr, ?_⟩) | (refine ⟨_, Pu.fr, ?_⟩))
local macro_rules | `(tactic| walk_at "dv") => `(tactic| first
  | refine ev_var (by rfl) ?_ | refine ev_ptr (.inl (by rfl)) ?_ | refine ev_ptr (.inr (.inl (by rfl))) ?_ | refine ev_ptr (.inr (.inr (by rfl))) ?_
  | refine uix_L (LstV.o ⟨0, .inr (by rfl)⟩) (by rfl) ?_ | refine uix_L LstV.d (by rfl) ?_ | refine uix_T (by rfl) ?_
  | refine gt_tup (by rfl) ?_ | refine gt_name (by first | exact all_in | simp) ?_ | refine ⟨_, rfl, ?_⟩)
local macro_rules | `(tactic| walk_at "e") => `(tactic| repeat (first | walk_at "dl" | walk_at "dv"))
local macro_rules | `(tactic| walk_at "d") => `(tactic| repeat (first | with_reducible refine es_seq ?_ | walk_at "dl" | walk_at "dv"))
section
variable {P : Program} {w : World} {K : PySem.W.Frag} {mg : Str → Option Value} {base : Heap}
abbrev s_law_labels : Stmt := topS 29
abbrev N_law_labels : List Str := ["mint", "many", "letters", "way", "at", "texts_here", "base", "spot", "pace", "k", "turn"]
theorem sc_law_labels : FnScope N_law_labels ["mint", "many"] (defScope s_law_labels) := ⟨rfl, rfl, rfl, by decide +kernel, rfl, by decide +kernel, by decide +kernel⟩

abbrev abc : Str := Str.ofString "abcdefghijklmnopqrstuvwxyz"
theorem abc_cps : abc.cps.toList = (List.range 26).map fun i => 97 + i := by decide +kernel
theorem abc_at {i : Nat} (h : i < 26) : atI abc.cps.toList (i : Int) = some (97 + i) := by
  refine atI_nat ?_
  rw [abc_cps]; simp [h]
theorem abc_len : abc.length ≤ sizeLine := by decide +kernel
theorem name_rep {n k : Nat} (hn : isLetter n) (h1 : 1 ≤ k) (h2 : k ≤ 8) : IsName (Txt.mul ⟨#[n]⟩ (k : Int)) := by
  unfold IsName
  rw [PyProof.Rows.mul_one_list]
  refine ⟨by simp; omega, by simp; omega, fun m hm => ?_⟩
  have := List.eq_of_mem_replicate hm
  subst this; exact hn
abbrev texts12 : List Str := ["say", "hear", "done", "one", "other", "a", "ask", "again", "pair", "lines", "room", "talk"].map Str.ofString
theorem texts12_names : ∀ x ∈ texts12, IsName x := by
  have key : ∀ x ∈ texts12, (1 ≤ x.cps.toList.length ∧ x.cps.toList.length ≤ 8 ∧ x.cps.toList.all (fun n => decide (97 ≤ n) && decide (n ≤ 122)) = true) := by decide +kernel
  intro x hx
  obtain ⟨h1, h2, h3⟩ := key x hx
  refine ⟨h1, h2, fun n hn => ?_⟩
  have := List.all_eq_true.mp h3 n hn
  simp at this
  exact this
theorem join_letters : ∀ ns : List Nat, (Txt.join (Str.ofString "") (ns.map fun n => (⟨#[n]⟩ : Str))).cps.toList = ns := fun ns => by
  rw [join_cps, List.map_map]
  induction ns with
  | nil => rfl
  | cons n ns ih => rw [List.map_cons, List.flatten_cons, ih]; rfl
theorem join_letters_len (ns : List Nat) : (((ns.map fun n => (⟨#[n]⟩ : Str))).map (·.length)).sum = ns.length := by
  induction ns with
  | nil => rfl
  | cons n ns ih => rw [List.map_cons, List.map_cons, List.sum_cons, ih, List.length_cons]; show 1 + ns.length = _; omega
theorem sIx_n (n d k : Nat) : HT.sIx n d (some (k : Int)) = min k n := HT.sIx_nat n d k
theorem cut_len (z : Str) (lo hi : Option Int) : (cutS z lo hi).length ≤ z.length := by
  unfold cutS
  show List.length ((z.cps.toList.drop _).take _) ≤ z.cps.size
  rw [List.length_take, List.length_drop, Array.length_toList]
  omega
/-- a name with one letter exchanged -/
theorem bent_name {base : Str} {spot m : Nat} (hb : IsName base) (hs : spot < base.cps.toList.length) (hm : isLetter m) :
    IsName (cutS base none (some (spot : Int)) ++ ⟨#[m]⟩ ++ cutS base (some ((spot : Int) + 1)) none) := by
  have hl : base.length = base.cps.toList.length := by simp [Str.length]
  have e1 : (cutS base none (some (spot : Int))).cps.toList = base.cps.toList.take spot := by
    unfold cutS
    rw [HT.sIx_none, sIx_n, hl]
    simp
  have e2 : (cutS base (some ((spot : Int) + 1)) none).cps.toList = base.cps.toList.drop (spot + 1) := by
    unfold cutS
    have : ((spot : Int) + 1) = ((spot + 1 : Nat) : Int) := by omega
    rw [this, HT.sIx_none, sIx_n, hl, Nat.min_eq_left (by omega)]
    exact List.take_of_length_le (by rw [List.length_drop]; omega)
  have e : (cutS base none (some (spot : Int)) ++ ⟨#[m]⟩ ++ cutS base (some ((spot : Int) + 1)) none).cps.toList = base.cps.toList.take spot ++ [m] ++ base.cps.toList.drop (spot + 1) := by
    show ((cutS base none (some (spot : Int))).cps ++ #[m] ++ (cutS base (some ((spot : Int) + 1)) none).cps).toList = _
    rw [Array.toList_append, Array.toList_append, e1, e2]
  unfold IsName
  rw [e]
  obtain ⟨h1, h2, h3⟩ := hb
  refine ⟨by simp only [List.length_append, List.length_singleton]; omega, ?_, fun n hn => ?_⟩
  · simp only [List.length_append, List.length_take, List.length_singleton, List.length_drop]; omega
  · rcases List.mem_append.mp hn with hn | hn
    · rcases List.mem_append.mp hn with hn | hn
      · exact h3 n (List.mem_of_mem_take hn)
      · rw [List.mem_singleton] at hn; subst hn; exact hm
    · exact h3 n (List.mem_of_mem_drop hn)
theorem nod_range {F : Nat → Str} {i : Nat} (inj : ∀ a < i, ∀ b < i, F a = F b → a = b) : ((List.range i).map F).Nodup := by
  rw [List.nodup_iff_pairwise_ne, List.pairwise_map]
  have h := List.nodup_iff_pairwise_ne.mp (List.nodup_range (n := i))
  exact List.Pairwise.imp_of_mem (fun ha hb hne e => hne (inj _ (List.mem_range.mp ha) _ (List.mem_range.mp hb) e)) h
theorem nod0 {at_ l many : Nat} (hl : l = many) (hc : many ≤ 9) : ((List.range many).map (fun k : Nat => Txt.mul (⟨#[97 + at_]⟩ : Str) ((k : Int) + 1))).Nodup := nod_range fun a _ b _ e => by
  have e := congrArg (fun z : Str => z.cps.toList.length) e
  rw [show ((a : Int) + 1) = ((a + 1 : Nat) : Int) by omega, show ((b : Int) + 1) = ((b + 1 : Nat) : Int) by omega, PyProof.Rows.mul_one_list, PyProof.Rows.mul_one_list] at e
  simp at e
  omega
theorem texts12_inj : ∀ i < 12, ∀ j < 12, (texts12[i]?).getD Str.empty = (texts12[j]?).getD Str.empty → i = j := by decide +kernel
theorem nod1 {at_ l many : Nat} (hl : l = many) (hc : many ≤ 9) : ((List.range many).map (fun k : Nat => (texts12[(((at_ : Int) + 5 * (k : Int)) % 12).toNat]?).getD Str.empty)).Nodup := nod_range fun a ha b hb e => by
  have := texts12_inj _ (by omega) _ (by omega) e
  omega
theorem nod2 {base : Str} {spot at_ pace l many : Nat} (hl : l = many) (hc : many ≤ 9) (hp : pace = 1 ∨ pace = 3 ∨ pace = 5 ∨ pace = 7 ∨ pace = 11) : ((List.range many).map (fun k : Nat => cutS base none (some (spot : Int)) ++ ⟨#[97 + (((at_ : Int) + (pace : Int) * (k : Int)) % 26).toNat]⟩ ++ cutS base (some ((spot : Int) + 1)) none)).Nodup := nod_range fun a ha b hb e => by
  have e := congrArg (fun z : Str => z.cps.toList) e
  have e : ((cutS base none (some (spot : Int))).cps ++ #[97 + (((at_ : Int) + (pace : Int) * (a : Int)) % 26).toNat] ++ (cutS base (some ((spot : Int) + 1)) none).cps).toList = ((cutS base none (some (spot : Int))).cps ++ #[97 + (((at_ : Int) + (pace : Int) * (b : Int)) % 26).toNat] ++ (cutS base (some ((spot : Int) + 1)) none).cps).toList := e
  rw [Array.toList_append, Array.toList_append, Array.toList_append, Array.toList_append] at e
  have e := List.append_cancel_left (List.append_cancel_right e)
  simp at e
  rcases hp with h | h | h | h | h <;> subst h <;> omega
def SLabels : OW → List T → (OW → RT → Prop) → Prop := fun us ts P => ∃ (n many : Nat), n + 100 < 100000 ∧ Mint n us ∧ 0 < many ∧ many ≤ 9 ∧ ts = [.int many] ∧
  ∀ us' (ls : List Str), Mint (n + 13) us' → ls.length = many → (∀ x ∈ ls, IsName x) → ls.Nodup → P us' (.new (.lst (ls.map .str)))
theorem ok_labels {f : Addr} {fd : FuncData} (Fn : Fun K "_law_labels" "_law_labels" s_law_labels f fd) (TX : TXF mg) (C_law_coin : Cal P w K mg base CX0 "_law_coin" 1 ["mint", "many"] (spM ⟨P, w, K⟩ SCoin)) : FnOk P w K mg base CX0 2 f fd ["mint", "many"] (spM ⟨P, w, K⟩ SLabels) := by
  refine Fn.ok sc_law_labels (fun vs H Q E h => ?_) (fun cdv A outer s H vs Q E hr h => ?_)
  · obtain ⟨F, m, ws, us, ts, rfl, _, _, _, hd, P, ⟨_, _, _, _, _, _, rfl, _⟩, _⟩ := h
    rw [List.length_cons, hd.length]; rfl
  · obtain ⟨F, m, ws, us, ts, rfl, fh, fm, hm, hd, PP, ⟨n, many, hn, hmint, hc0, hc1, rfl, hk⟩, q⟩ := h
    have hu := hr.units
    have hz9 : (100 : Nat) ≤ sizeLine := by decide +kernel
    refine ⟨_, (pss_cons (ps_asg (pe_tup (pa_cons pe_str (pa_cons (pe_call C_law_coin.ok (hr.mono (by decide)) (by rfl) C_law_coin.mg C_law_coin.kp C_law_coin.bd .nil pass0 (pa_cons (pv 0) (pa_cons pe_int pa_nil))) (pa_cons (pe_call C_law_coin.ok (hr.mono (by decide)) (by rfl) C_law_coin.mg C_law_coin.kp C_law_coin.bd .nil pass0 (pa_cons (pv 0) (pa_cons pe_int pa_nil))) pa_nil)))) (pg_tupB ⟨P, w, K⟩ rfl 3 rfl (pgs_cons (pg_name (i := 2) sc_law_labels.nd rfl (Or.inr rfl)) (pgs_cons (pg_name (i := 3) sc_law_labels.nd rfl (Or.inl rfl)) (pgs_cons (pg_name (i := 4) sc_law_labels.nd rfl (Or.inr rfl)) pgs_nil)))))
    (pss_cons (ps_if (PW.pt (pw_and (pt_cmpR (op_eqB ⟨P, w, K⟩ rfl hu) (pv 3) pe_int (nomark _)) (pw_and1 (pt_cmpR op_uLt (pv 1) pe_int (nomark _))))) (pss_one (ps_ret (pe_lc (own := [("k", 9)]) (by rfl) sc_law_labels.nd (pi_range1 (by rfl) TX.n_range (pa_cons (pv 1) pa_nil)) (blkOk_by (N := N_law_labels) (sc := defScope s_law_labels) (by decide +kernel)) (fun _ _ _ _ _ => (pg_name (i := 9) sc_law_labels.nd rfl (Or.inl rfl))) (fun _ _ _ _ _ => pts_nil) (fun _ _ _ _ _ => (pe_op op_uMul (pe_ix (ix_B ⟨P, w, K⟩ rfl hu) (pv 2) (pv 4) (fun _ _ => rfl)) (pe_op (op_addB ⟨P, w, K⟩ rfl) (pv 9) pe_int)))))) pss_nil)
    (pss_cons (ps_if (pt_cmpR (op_eqB ⟨P, w, K⟩ rfl hu) (pv 3) pe_int (nomark _)) (pss_cons (ps_set (i := 5) sc_law_labels.nd rfl (Or.inr rfl) (pe_lst (pa_cons pe_str (pa_cons pe_str (pa_cons pe_str (pa_cons pe_str (pa_cons pe_str (pa_cons pe_str (pa_cons pe_str (pa_cons pe_str (pa_cons pe_str (pa_cons pe_str (pa_cons pe_str (pa_cons pe_str pa_nil))))))))))))))
    (pss_one (ps_ret (pe_lc (own := [("k", 9)]) (by rfl) sc_law_labels.nd (pi_range1 (by rfl) TX.n_range (pa_cons (pv 1) pa_nil)) (blkOk_by (N := N_law_labels) (sc := defScope s_law_labels) (by decide +kernel)) (fun _ _ _ _ _ => (pg_name (i := 9) sc_law_labels.nd rfl (Or.inl rfl))) (fun _ _ _ _ _ => pts_nil) (fun _ _ _ _ _ => (pe_ix (ix_B ⟨P, w, K⟩ rfl hu) (pv 5) (pe_op op_mod (pe_callTy (call_int1') (by rfl) TX.n_int (by decide +kernel) (pa_cons (pe_op (op_addB ⟨P, w, K⟩ rfl) (pv 4) (pe_op op_uMul pe_int (pv 9))) pa_nil)) pe_int) (fun _ _ => rfl))))))) pss_nil)
    (pss_cons (ps_set (i := 6) sc_law_labels.nd rfl (Or.inr rfl) (pe_bm PySem.F.plainAttrs_str PySem.F.slot_str_join PySem.F.type_str_join (mt_joinB ⟨P, w, K⟩ rfl) pe_str (pa_cons (pe_lc (own := [("turn", 10)]) (by rfl) sc_law_labels.nd (pi_range1 (by rfl) TX.n_range (pa_cons (pe_op (op_addB ⟨P, w, K⟩ rfl) pe_int (pe_call C_law_coin.ok (hr.mono (by decide)) (by rfl) C_law_coin.mg C_law_coin.kp C_law_coin.bd .nil pass0 (pa_cons (pv 0) (pa_cons pe_int pa_nil)))) pa_nil)) (blkOk_by (N := N_law_labels) (sc := defScope s_law_labels) (by decide +kernel)) (fun _ _ _ _ _ => (pg_name (i := 10) sc_law_labels.nd rfl (Or.inl rfl))) (fun _ _ _ _ _ => pts_nil) (fun _ _ _ _ _ => (pe_ix (ix_B ⟨P, w, K⟩ rfl hu) (pv 2) (pe_call C_law_coin.ok (hr.mono (by decide)) (by rfl) C_law_coin.mg C_law_coin.kp C_law_coin.bd .nil pass0 (pa_cons (pv 0) (pa_cons pe_int pa_nil))) (fun _ _ => rfl)))) pa_nil)))
    (pss_cons (ps_asg (pe_tup (pa_cons (pe_call C_law_coin.ok (hr.mono (by decide)) (by rfl) C_law_coin.mg C_law_coin.kp C_law_coin.bd .nil pass0 (pa_cons (pv 0) (pa_cons (pe_callB (call_lenB ⟨P, w, K⟩ rfl hu) (by rfl) TX.n_len (by decide +kernel) (pa_cons (pv 6) pa_nil)) pa_nil))) (pa_cons (pe_ix (ix_B ⟨P, w, K⟩ rfl hu) (pe_lst (pa_cons pe_int (pa_cons pe_int (pa_cons pe_int (pa_cons pe_int (pa_cons pe_int pa_nil)))))) (pe_call C_law_coin.ok (hr.mono (by decide)) (by rfl) C_law_coin.mg C_law_coin.kp C_law_coin.bd .nil pass0 (pa_cons (pv 0) (pa_cons pe_int pa_nil))) (fun _ _ => rfl)) pa_nil))) (pg_tupB ⟨P, w, K⟩ rfl 2 rfl (pgs_cons (pg_name (i := 7) sc_law_labels.nd rfl (Or.inr rfl)) (pgs_cons (pg_name (i := 8) sc_law_labels.nd rfl (Or.inr rfl)) pgs_nil))))
    (pss_one (ps_ret (pe_lc (own := [("k", 9)]) (by rfl) sc_law_labels.nd (pi_range1 (by rfl) TX.n_range (pa_cons (pv 1) pa_nil)) (blkOk_by (N := N_law_labels) (sc := defScope s_law_labels) (by decide +kernel)) (fun _ _ _ _ _ => (pg_name (i := 9) sc_law_labels.nd rfl (Or.inl rfl))) (fun _ _ _ _ _ => pts_nil) (fun _ _ _ _ _ => (pe_op (op_addB ⟨P, w, K⟩ rfl) (pe_op (op_addB ⟨P, w, K⟩ rfl) (pe_slice (sl_B ⟨P, w, K⟩ rfl) (pv 6) po_none (po_some (pv 7))) (pe_ix (ix_B ⟨P, w, K⟩ rfl hu) (pv 2) (pe_op op_mod (pe_callTy (call_int1') (by rfl) TX.n_int (by decide +kernel) (pa_cons (pe_op (op_addB ⟨P, w, K⟩ rfl) (pv 4) (pe_op op_uMul (pv 8) (pv 9))) pa_nil)) pe_int) (fun _ _ => rfl))) (pe_slice (sl_B ⟨P, w, K⟩ rfl) (pv 6) (po_some (pe_op (op_addB ⟨P, w, K⟩ rfl) (pv 7) pe_int)) po_none))))))))))), ?_⟩
    refine run_M (n := 9) fh fm hm hd rfl q ?_
    dsimp only [cxOf]
    refine es_seq ?_
    refine es_asg (ev_tup (ea_cons (ev_str ⟨_, Pu.d, ?_⟩)))
    refine ea_cons (ev_coin ?_)
    walk_at "e"
    refine ⟨_, us, n, 4, rfl, rfl, hmint, by omega, by decide, small (by decide), fun us1 way hm1 hw1 hw2 => ⟨_, Pu.d, ?_⟩⟩
    refine ea_cons (ev_coin ?_)
    walk_at "e"
    refine ⟨_, us1, n + 1, 26, rfl, rfl, hm1, by omega, by decide, small (by decide), fun us2 at_ hm2 ha1 ha2 => ⟨_, Pu.d, ea_nil ⟨[.str abc, .int way, .int at_], rfl, (show 3 ≤ sizeLine by omega), ?_⟩⟩⟩
    walk_at "e"
    obtain ⟨at_, rfl⟩ := Int.eq_ofNat_of_zero_le ha1
    have ha2 : at_ < 26 := by omega
    refine es_seqJ (fun δ => δ = [.arg m us2, .d (.int many), .d (.str abc), .d (.int way), .d (.int at_), .no, .no, .no, .no, .no, .no]) ?_ ?_
    · refine es_if (et_and ?_)
      walk_at "e"
      refine o2_eqI ⟨_, rfl, ?_⟩
      have rest : ES (⟨⟨P, w, K⟩, F, H, some m⟩ : Cn) tNext [.arg m us2, .d (.int many), .d (.str abc), .d (.int way), .d (.int at_), .no, .no, .no, .no, .no, .no] { rt := fun δ r => ∃ us', δ[0]? = some (.arg m us') ∧ RTr (PP us') r, nx := fun δ => δ = [.arg m us2, .d (.int many), .d (.str abc), .d (.int way), .d (.int at_), .no, .no, .no, .no, .no, .no] } := es_next rfl
      refine ite2 (fun _ => ?_) (fun _ => ?_)
      · walk_at "e"
        refine ite2 (fun h9 => ?_) (fun _ => rest)
        have h9 : (many : Int) < 9 := by simpa using h9
        walk_at "e"
        refine ev_lcI (ei_R (ea_cons (ev_var (by rfl) ⟨_, Pu.d, ea_nil ?_⟩)))
        refine ⟨many, rfl, by omega, by rw [List.length_map, List.length_range]; omega, fun i acc δ => ∃ ls : List Str, acc = ls.map T.str ∧ ls.length = i ∧ ((∀ x ∈ ls, IsName x) ∧ ls = (List.range i).map (fun k : Nat => Txt.mul (⟨#[97 + at_]⟩ : Str) ((k : Int) + 1))) ∧ δ = [.arg m us2, .d (.int many), .d (.str abc), .d (.int way), .d (.int at_), .no, .no, .no, .no, .no, .no], ⟨[], rfl, rfl, ⟨(fun _ h => nomatch h), rfl⟩, rfl⟩, fun _ _ _ _ => trivial, ?_, ?_⟩
        · rintro i t acc δ ht _ ⟨ls, rfl, hl, ⟨hls, hF⟩, rfl⟩
          have hi : i < many := by
            have := (List.getElem?_eq_some_iff.mp ht).1
            simpa using this
          have et : t = .int (i : Nat) := by
            rw [List.getElem?_map, List.getElem?_range hi] at ht
            simpa using ht.symm
          subst et
          walk_at "d"
          refine ite2 (fun _ => ?_) (fun h => nomatch h)
          walk_at "d"
          refine uix_S abc_len (abc_at ha2) ?_
          walk_at "d"
          refine o2_mulS (mulOk_one (by omega) (by omega)) ?_
          refine ⟨_, Pu.d, ls ++ [Txt.mul ⟨#[97 + at_]⟩ ((i : Int) + 1)], by rw [List.map_append]; rfl, by rw [List.length_append, hl]; rfl, ⟨fun x hx => ?_, by rw [hF, List.range_succ, List.map_append]; rfl⟩, rfl⟩
          rcases List.mem_append.mp hx with hx | hx
          · exact hls x hx
          · rw [List.mem_singleton] at hx; subst hx
            have := name_rep (n := 97 + at_) (k := i + 1) ⟨by omega, by omega⟩ (by omega) (by omega)
            rwa [show (((i + 1 : Nat) : Int)) = (i : Int) + 1 by omega] at this
        · rintro acc δ _ ⟨ls, rfl, hl, hls, rfl⟩ p1
          rw [List.length_map, List.length_range] at hl hls
          exact ⟨us2, rfl, hk us2 ls (hm2.mono (by omega)) hl hls.1 (by rw [hls.2]; exact nod0 hl hc1)⟩
      · exact rest
    · rintro δ rfl
      refine es_seqJ (fun δ => δ = [.arg m us2, .d (.int many), .d (.str abc), .d (.int way), .d (.int at_), .no, .no, .no, .no, .no, .no]) ?_ ?_
      · refine es_if ?_
        walk_at "e"
        refine o2_eqI ⟨_, rfl, ?_⟩
        refine ite2 (fun _ => ?_) (fun _ => es_next rfl)
        refine es_seq ?_
        walk_at "e"
        refine ⟨texts12.map T.str, rfl, (show 12 ≤ sizeLine by decide +kernel), fun p1 => ?_⟩
        walk_at "e"
        refine ev_lcI (ei_R (ea_cons (ev_var (by rfl) ⟨_, Pu.d, ea_nil ?_⟩)))
        refine ⟨many, rfl, by omega, by rw [List.length_map, List.length_range]; omega, fun i acc δ => ∃ ls : List Str, acc = ls.map T.str ∧ ls.length = i ∧ ((∀ x ∈ ls, IsName x) ∧ ls = (List.range i).map (fun k : Nat => (texts12[(((at_ : Int) + 5 * (k : Int)) % 12).toNat]?).getD Str.empty)) ∧ δ = [.arg m us2, .d (.int many), .d (.str abc), .d (.int way), .d (.int at_), .own p1 (.lst (texts12.map T.str)), .no, .no, .no, .no, .no], ⟨[], rfl, rfl, ⟨(fun _ h => nomatch h), rfl⟩, rfl⟩, fun _ _ _ _ => trivial, ?_, ?_⟩
        · rintro i t acc δ ht _ ⟨ls, rfl, hl, ⟨hls, hF⟩, rfl⟩
          have hi : i < many := by
            have := (List.getElem?_eq_some_iff.mp ht).1
            simpa using this
          have et : t = .int (i : Nat) := by
            rw [List.getElem?_map, List.getElem?_range hi] at ht
            simpa using ht.symm
          subst et
          walk_at "d"
          refine ite2 (fun _ => ?_) (fun h => nomatch h)
          walk_at "d"
          refine o2_mulI (.inr ⟨by omega, by omega⟩) ?_
          walk_at "d"
          refine o2_mod (by decide) ?_
          walk_at "d"
          obtain ⟨z, hz, hz2⟩ : ∃ z : Nat, ((at_ : Int) + 5 * (i : Int)) % 12 = z ∧ z < 12 := by
            refine ⟨(((at_ : Int) + 5 * (i : Int)) % 12).toNat, ?_, ?_⟩ <;> omega
          rw [hz]
          have hz3 : z < texts12.length := hz2
          refine uix_m (f := T.str) (l := texts12) (LstV.o ⟨5, .inl rfl⟩) hz3 ?_
          refine ⟨_, Pu.d, ls ++ [texts12[z]], by rw [List.map_append]; rfl, by rw [List.length_append, hl]; rfl, ⟨fun x hx => ?_, by rw [hF, List.range_succ, List.map_append]; rw [List.map_singleton, hz, Int.toNat_natCast, List.getElem?_eq_getElem hz3]; rfl⟩, rfl⟩
          rcases List.mem_append.mp hx with hx | hx
          · exact hls x hx
          · rw [List.mem_singleton] at hx; subst hx
            exact texts12_names _ (List.getElem_mem hz3)
        · rintro acc δ _ ⟨ls, rfl, hl, hls, rfl⟩ p2
          rw [List.length_map, List.length_range] at hl hls
          exact ⟨us2, rfl, hk us2 ls (hm2.mono (by omega)) hl hls.1 (by rw [hls.2]; exact nod1 hl hc1)⟩
      · rintro δ rfl
        refine es_seqJ (fun δ => ∃ (us3 : OW) (base : Str), Mint (n + 11) us3 ∧ IsName base ∧ δ = [.arg m us3, .d (.int many), .d (.str abc), .d (.int way), .d (.int at_), .no, .d (.str base), .no, .no, .no, .no]) ?_ ?_
        · refine es_asg (ev_join ?_)
          walk_at "e"
          refine ev_lcI (ei_R (ea_cons (ev_op ?_)))
          walk_at "e"
          refine ev_coin ?_
          walk_at "e"
          refine ⟨_, us2, n + 2, 8, rfl, rfl, hm2, by omega, by decide, small (by decide), fun us3 r hm3 hr1 hr2 => ⟨_, Pu.d, ?_⟩⟩
          walk_at "e"
          obtain ⟨r, rfl⟩ := Int.eq_ofNat_of_zero_le hr1
          refine ⟨1 + r, by rw [show ((1 + r : Nat) : Int) = 1 + (r : Int) by omega], by omega, by rw [List.length_map, List.length_range]; omega, fun i acc δ => ∃ (us4 : OW) (ns : List Nat), Mint (n + 3 + i) us4 ∧ acc = (ns.map fun n => (⟨#[n]⟩ : Str)).map T.str ∧ ns.length = i ∧ (∀ x ∈ ns, isLetter x) ∧ δ = [.arg m us4, .d (.int many), .d (.str abc), .d (.int way), .d (.int at_), .no, .no, .no, .no, .no, .no], ⟨us3, [], hm3, rfl, rfl, (fun _ h => nomatch h), rfl⟩, fun _ _ _ _ => trivial, ?_, ?_⟩
          · rintro i t acc δ ht _ ⟨us4, ns, hm4, rfl, hl, hns, rfl⟩
            have hi : i < 1 + r := by
              have := (List.getElem?_eq_some_iff.mp ht).1
              simpa using this
            walk_at "d"
            refine ite2 (fun _ => ?_) (fun h => nomatch h)
            walk_at "d"
            refine ev_coin ?_
            walk_at "d"
            refine ⟨_, us4, n + 3 + i, 26, rfl, rfl, hm4, by omega, by decide, small (by decide), fun us5 r2 hm5 hr3 hr4 => ⟨_, Pu.d, ?_⟩⟩
            obtain ⟨r2, rfl⟩ := Int.eq_ofNat_of_zero_le hr3
            have hr4 : r2 < 26 := by omega
            refine uix_S abc_len (abc_at hr4) ?_
            refine ⟨_, Pu.d, us5, ns ++ [97 + r2], hm5.mono (by omega), by rw [List.map_append, List.map_append]; rfl, by rw [List.length_append, hl]; rfl, fun x hx => ?_, rfl⟩
            rcases List.mem_append.mp hx with hx | hx
            · exact hns x hx
            · rw [List.mem_singleton] at hx; subst hx; exact ⟨by omega, by omega⟩
          · rintro acc δ _ ⟨us4, ns, hm4, rfl, hl, hns, rfl⟩ p1
            rw [List.length_map, List.length_range] at hm4 hl
            refine ⟨_, Pu.fr, ns.map fun n => (⟨#[n]⟩ : Str), LstV.d, ?_, ?_⟩
            · rw [join_letters_len, List.length_map, hl]
              show 1 + r + (1 + r) * 0 ≤ _
              omega
            · refine gt_name all_in ⟨us4, _, hm4.mono (by omega), ?_, rfl⟩
              unfold IsName
              rw [join_letters]
              exact ⟨by omega, by omega, hns⟩
        · rintro δ ⟨us3, base, hm3, hbase, rfl⟩
          have hbl : base.length = base.cps.toList.length := by simp [Str.length]
          have hb1 := hbase.1
          have hb2 := hbase.2.1
          refine es_seq ?_
          refine es_asg (ev_tup (ea_cons (ev_coin ?_)))
          walk_at "e"
          refine ulen_S (by omega) ?_
          walk_at "e"
          refine ⟨_, us3, n + 11, base.length, rfl, rfl, hm3, by omega, by omega, small (by omega), fun us4 spot hm4 hs1 hs2 => ⟨_, Pu.d, ?_⟩⟩
          obtain ⟨spot, rfl⟩ := Int.eq_ofNat_of_zero_le hs1
          have hs2 : spot < base.cps.toList.length := by omega
          walk_at "e"
          refine ⟨([1, 3, 5, 7, 11] : List Int).map T.int, rfl, (show 5 ≤ sizeLine by decide +kernel), fun p1 => ⟨_, Pu.fr, ?_⟩⟩
          refine ev_coin ?_
          walk_at "e"
          refine ⟨_, us4, n + 12, 5, rfl, rfl, hm4, by omega, by decide, small (by decide), fun us5 pa hm5 hp1 hp2 => ⟨_, Pu.d, ?_⟩⟩
          obtain ⟨pa, rfl⟩ := Int.eq_ofNat_of_zero_le hp1
          have hp3 : pa < ([1, 3, 5, 7, 11] : List Int).length := by show pa < 5; omega
          refine uix_m (f := T.int) (l := [1, 3, 5, 7, 11]) LstV.d hp3 ?_
          have hpace : ∃ pace : Nat, ([1, 3, 5, 7, 11] : List Int)[pa] = pace ∧ pace ≤ 11 ∧ (pace = 1 ∨ pace = 3 ∨ pace = 5 ∨ pace = 7 ∨ pace = 11) := by
            have : pa = 0 ∨ pa = 1 ∨ pa = 2 ∨ pa = 3 ∨ pa = 4 := by have : pa < 5 := hp3; omega
            rcases this with h | h | h | h | h <;> subst h
            · exact ⟨1, rfl, by decide, by decide⟩
            · exact ⟨3, rfl, by decide, by decide⟩
            · exact ⟨5, rfl, by decide, by decide⟩
            · exact ⟨7, rfl, by decide, by decide⟩
            · exact ⟨11, rfl, by decide, by decide⟩
          obtain ⟨pace, ep, hpace⟩ := hpace
          rw [ep]
          refine ⟨_, Pu.d, ea_nil ⟨[.int spot, .int pace], rfl, (show 2 ≤ sizeLine by omega), ?_⟩⟩
          walk_at "e"
          refine ev_lcI (ei_R (ea_cons (ev_var (by rfl) ⟨_, Pu.d, ea_nil ?_⟩)))
          refine ⟨many, rfl, by omega, by rw [List.length_map, List.length_range]; omega, fun i acc δ => ∃ ls : List Str, acc = ls.map T.str ∧ ls.length = i ∧ ((∀ x ∈ ls, IsName x) ∧ ls = (List.range i).map (fun k : Nat => cutS base none (some (spot : Int)) ++ ⟨#[97 + (((at_ : Int) + (pace : Int) * (k : Int)) % 26).toNat]⟩ ++ cutS base (some ((spot : Int) + 1)) none)) ∧ δ = [.arg m us5, .d (.int many), .d (.str abc), .d (.int way), .d (.int at_), .no, .d (.str base), .d (.int spot), .d (.int pace), .no, .no], ⟨[], rfl, rfl, ⟨(fun _ h => nomatch h), rfl⟩, rfl⟩, fun _ _ _ _ => trivial, ?_, ?_⟩
          · rintro i t acc δ ht _ ⟨ls, rfl, hl, ⟨hls, hF⟩, rfl⟩
            have hi : i < many := by
              have := (List.getElem?_eq_some_iff.mp ht).1
              simpa using this
            have et : t = .int (i : Nat) := by
              rw [List.getElem?_map, List.getElem?_range hi] at ht
              simpa using ht.symm
            subst et
            walk_at "d"
            refine ite2 (fun _ => ?_) (fun h => nomatch h)
            walk_at "d"
            refine os_S (by omega) ?_
            walk_at "d"
            refine o2_mulI (.inl ⟨by omega, by omega⟩) ?_
            walk_at "d"
            refine o2_mod (by decide) ?_
            walk_at "d"
            obtain ⟨z, hz, hz2⟩ : ∃ z : Nat, ((at_ : Int) + (pace : Int) * (i : Int)) % 26 = z ∧ z < 26 := by
              have h1 := Int.emod_nonneg ((at_ : Int) + (pace : Int) * (i : Int)) (show (26 : Int) ≠ 0 by decide)
              have h2 := Int.emod_lt_of_pos ((at_ : Int) + (pace : Int) * (i : Int)) (show (0 : Int) < 26 by decide)
              exact ⟨(((at_ : Int) + (pace : Int) * (i : Int)) % 26).toNat, by omega, by omega⟩
            rw [hz]
            refine uix_S abc_len (abc_at hz2) ?_
            have c1 : (cutS base none (some (spot : Int))).length ≤ 8 := Nat.le_trans (cut_len _ _ _) (by omega)
            have c2 : (cutS base (some ((spot : Int) + 1)) none).length ≤ 8 := Nat.le_trans (cut_len _ _ _) (by omega)
            refine ⟨_, Pu.d, o2_addS (by show _ + 1 ≤ _; omega) ?_⟩
            walk_at "d"
            refine os_S (by omega) ?_
            refine ⟨_, Pu.d, o2_addS ?_ ?_⟩
            · have : (cutS base none (some (spot : Int)) ++ (⟨#[97 + z]⟩ : Str)).length ≤ 9 := by
                show ((cutS base none (some (spot : Int))).cps ++ #[97 + z]).size ≤ 9
                rw [Array.size_append]
                have : (cutS base none (some (spot : Int))).cps.size ≤ 8 := c1
                simp; omega
              omega
            refine ⟨_, Pu.d, ls ++ [cutS base none (some (spot : Int)) ++ ⟨#[97 + z]⟩ ++ cutS base (some ((spot : Int) + 1)) none], by rw [List.map_append]; rfl, by rw [List.length_append, hl]; rfl, ⟨fun x hx => ?_, by rw [hF, List.range_succ, List.map_append]; rw [List.map_singleton, hz]; rfl⟩, rfl⟩
            rcases List.mem_append.mp hx with hx | hx
            · exact hls x hx
            · rw [List.mem_singleton] at hx; subst hx
              exact bent_name hbase hs2 ⟨by omega, by omega⟩
          · rintro acc δ _ ⟨ls, rfl, hl, hls, rfl⟩ p2
            rw [List.length_map, List.length_range] at hl hls
            exact ⟨us5, rfl, hk us5 ls hm5 hl hls.1 (by rw [hls.2]; exact nod2 hl hc1 hpace.2)⟩
end
end K

namespace K
open PySem L2 DL
local macro_rules | `(tactic| walk_at "dl") => `(tactic| with_reducible first
  | refine es_if ?_ | refine es_append ?_ | refine es_sub ?_ | refine es_par3 ?_ | refine es_parD ?_ | refine es_asg ?_ | refine es_ret ?_ | refine es_retN ?_ | refine es_next ?_ | refine es_drop ?_ | refine es_break ?_ | refine es_cont ?_
  | refine et_val ?_ | refine et_B ?_ | refine et_not ?_ | refine et_and ?_ | refine et_or ?_ | refine et_yes ?_
  | refine ev_op ?_ | refine ev_un ?_ | refine ev_cb ?_ | refine ev_tup ?_ | refine ev_lst ?_ | refine ev_ifx ?_ | refine ev_andV ?_ | refine ev_orV ?_ | refine ev_notV ?_ | refine ev_sl ?_
  | refine ea_cons ?_ | refine ea_nil ?_ | refine ev_int ?_ | refine ev_str ?_ | refine ev_bl ?_ | refine ev_non ?_ | refine eo_none ?_ | refine eo_some ?_
  | refine gts_cons ?_ | refine gts_nil ?_
  | refine o2_addI ?_ | refine o2_ltI ?_ | refine o2_leI ?_ | refine o2_gtI ?_ | refine o2_geI ?_ | refine o2_ltS ?_ | refine o2_leS ?_ | refine o2_gtS ?_ | refine o2_sub ?_
  | refine oa_intI ?_ | refine oa_intB ?_ | refine oa_abs ?_ | refine oa_two ?_ | refine ulen_R ?_ | refine ulen_T ?_ | refine ulen_L LstV.d ?_
  | (refine ⟨_, Pu.d, ?_⟩) | (refine ⟨_, Pu.ptr, ?_⟩) | (refine ⟨_, Pu.fr, ?_⟩))
local macro_rules | `(tactic| walk_at "dv") => `(tactic| first
  | refine ev_var (by rfl) ?_ | refine ev_ptr (.inl (by rfl)) ?_ | refine ev_ptr (.inr (.inl (by rfl))) ?_ | refine ev_ptr (.inr (.inr (by rfl))) ?_
  | refine uix_L (LstV.o ⟨0, .inr (by rfl)⟩) (by rfl) ?_ | refine uix_L LstV.d (by rfl) ?_ | refine uix_T (by rfl) ?_
  | refine gt_tup (by rfl) ?_ | refine gt_name (by first | exact all_in | simp) ?_ | refine ⟨_, rfl, ?_⟩)
local macro_rules | `(tactic| walk_at "e") => `(tactic| repeat (first | walk_at "dl" | walk_at "dv"))
local macro_rules | `(tactic| walk_at "d") => `(tactic| repeat (first | with_reducible refine es_seq ?_ | walk_at "dl" | walk_at "dv"))
section
variable {P : Program} {w : World} {K : PySem.W.Frag} {mg : Str → Option Value} {base : Heap}
/-- a method, or __init__ -/
structure CalM (P : Program) (w : World) (K : PySem.W.Frag) (mg : Str → Option Value) (base : Heap) (k : Nat) (f : Addr) (ps : List Str) (sp : Sp) where
  fd : FuncData
  ok : FnOk P w K mg base CX0 k f fd ps sp
  bd : Binds K fd ps []
abbrev s_law_made_service : Stmt := topS 34
abbrev N_law_made_service : List Str := ["plan", "steps_here"]
theorem sc_law_made_service : FnScope N_law_made_service ["plan"] (defScope s_law_made_service) := ⟨rfl, rfl, rfl, by decide +kernel, rfl, by decide +kernel, by decide +kernel⟩

def SMade (C : Addr) : List T → (RT → Prop) → Prop := fun ts P => ∃ p : Plan, GoodPlan p ∧ p ≠ [] ∧ ts = [ePlan p] ∧ ∀ q, LeastOf p q → P (.d (objS C q))
theorem ok_made {f C fi : Addr} {fd : FuncData} (Fn : Fun K "_law_made_service" "_law_made_service" s_law_made_service f fd) (TX : TXF mg) (MK_Service : Mk K C fi) (MK_Service_mg : mg "Service" = some (.ref C)) (C_Service___init__ : CalM P w K mg base 4 fi ["self", "rooms"] (spM ⟨P, w, K⟩ (SInit C))) : FnOk P w K mg base CX0 6 f fd ["plan"] (spP ⟨P, w, K⟩ (SMade C)) := by
  refine Fn.ok sc_law_made_service (fun vs H Q E h => ?_) (fun cdv A outer s H vs Q E hr h => ?_)
  · obtain ⟨F, ts, _, hd, P, ⟨_, _, _, rfl, _⟩, _⟩ := h
    rw [hd.length]; rfl
  · obtain ⟨F, ts, fh, hd, PP, ⟨p, hg, hp0, rfl, hk⟩, q⟩ := h
    have hu := hr.units
    refine ⟨_, (pss_one (ps_ret (pe_make MK_Service C_Service___init__.ok (hr.mono (by decide)) (by rfl) MK_Service_mg C_Service___init__.bd .nil pass0 (pa_cons (pe_lc (own := [("steps_here", 1)]) (by rfl) sc_law_made_service.nd (pi_listB ⟨P, w, K⟩ rfl (pv 0)) (blkOk_by (N := N_law_made_service) (sc := defScope s_law_made_service) (by decide +kernel)) (fun _ _ _ _ _ => (pg_name (i := 1) sc_law_made_service.nd rfl (Or.inl rfl))) (fun _ _ _ _ _ => pts_nil) (fun _ _ _ _ _ => (pe_callTy (call_listB ⟨P, w, K⟩ rfl) (by rfl) TX.n_list (by decide +kernel) (pa_cons (pv 1) pa_nil)))) pa_nil)))), ?_⟩
    refine run_P (n := 1) fh hd rfl q ?_
    dsimp only [cxOf]
    refine es_ret (ev_make (ea_cons ?_))
    refine ev_lcI (ei_L ?_)
    walk_at "e"
    refine ⟨by rw [List.length_map]; exact Nat.le_of_lt hg.1, fun i acc δ => acc = (p.take i).map eRoom ∧ δ = [.d (ePlan p), .no], ⟨by simp, rfl⟩, fun _ _ _ _ => trivial, ?_, ?_⟩
    · rintro i t acc δ hti _ ⟨rfl, rfl⟩
      rw [List.getElem?_map] at hti
      obtain ⟨r, hr', rfl⟩ := Option.map_eq_some_iff.mp hti
      walk_at "d"
      refine ite2 (fun _ => ?_) (fun h => nomatch h)
      walk_at "d"
      refine oa_list LstV.d fun p1 => ?_
      refine ⟨_, Pu.fr, ?_, rfl⟩
      rw [List.take_add_one, hr']; simp [eRoom]
    · rintro acc δ _ ⟨rfl, rfl⟩ p2
      rw [List.length_map, List.take_length]
      refine ⟨_, Pu.fr, ea_nil ?_⟩
      exact ⟨[ePlan p], rfl, fun dx => ⟨fun o r => r = .d .non ∧ ∃ q, LeastOf p q ∧ o = .ins C dx ["_rooms"] [ePlan q], ⟨dx, p, rfl, hg, hp0, rfl, fun q hq => ⟨rfl, q, hq, rfl⟩⟩, fun o r ⟨e1, q, hq, e2⟩ => ⟨_, _, e2, e1, hk q hq⟩⟩⟩
theorem cut_take {α : Type} (xs : List α) (n : Nat) : cutG xs none (some (n : Int)) = xs.take n := by
  unfold cutG
  rw [HT.sIx_none, HT.sIx_nat, List.drop_zero, Nat.sub_zero]
  by_cases h : n ≤ xs.length
  · rw [Nat.min_eq_left h]
  · rw [Nat.min_eq_right (by omega), List.take_length, List.take_of_length_le (by omega)]
theorem cut_drop {α : Type} (xs : List α) (n : Nat) : cutG xs (some (n : Int)) none = xs.drop n := by
  unfold cutG
  rw [HT.sIx_none, HT.sIx_nat]
  by_cases h : n ≤ xs.length
  · rw [Nat.min_eq_left h]
    exact List.take_of_length_le (by rw [List.length_drop]; omega)
  · rw [Nat.min_eq_right (by omega), List.drop_of_length_le (by omega), List.drop_of_length_le (by omega)]; simp
end
end K

namespace K
open PySem L2 DL PyProof.Rows
/-! ### the order of steps and of keys -/
def toks (d : PyData) : List (Int ⊕ List Nat) := PySem.W.keyToks d
def klt (a b : K3) : Prop := PyProof.Rows.lexLt PyProof.Rows.itemOrd (toks (dK a)) (toks (dK b)) = true
theorem toks_K (k : K3) : toks (dK k) = [.inl 1, .inr k.1.cps.toList, .inl 1, .inr k.2.1.cps.toList, .inl 1, .inr k.2.2.cps.toList, .inl 0] := by
  simp [toks, dK, PySem.W.keyToks, PySem.W.keyToksAll]
theorem toks_S (s : Stp) : toks (dS s) = [.inl 1, .inr s.1.cps.toList, .inl 1, .inr s.2.1.cps.toList, .inl 1, .inr s.2.2.1.cps.toList, .inl 1, .inl s.2.2.2, .inl 0] := by
  simp [toks, dS, PySem.W.keyToks, PySem.W.keyToksAll]
theorem toks_inj {a b : K3} (h : toks (dK a) = toks (dK b)) : a = b := by
  rw [toks_K, toks_K] at h
  simp only [List.cons.injEq, Sum.inr.injEq, true_and, and_true] at h
  exact Prod.ext (PySem.W.str_of_cps h.1) (Prod.ext (PySem.W.str_of_cps h.2.1) (PySem.W.str_of_cps h.2.2))
theorem klt_asymm (a b : K3) (h : klt a b) : ¬ klt b a := fun h' => by
  have := PyProof.Rows.lex_trans _ _ _ h h'
  rw [PyProof.Rows.lex_irrefl] at this
  cases this
theorem klt_total {a b : K3} (h : a ≠ b) (h' : ¬ klt b a) : klt a b := Classical.byContradiction fun q => by
  unfold klt at q h'
  exact h (toks_inj (PyProof.Rows.lex_total _ _ (by simpa using q) (by simpa using h')))
theorem cps_ne {a b : Str} (h : a ≠ b) : (Sum.inr a.cps.toList : Int ⊕ List Nat) ≠ .inr b.cps.toList := fun q => h (PySem.W.str_of_cps (Sum.inr.inj q))
theorem step_lt {s t : Stp} (h : kyOf s ≠ kyOf t) : PyProof.Rows.lexLt PyProof.Rows.itemOrd (toks (dS s)) (toks (dS t)) = PyProof.Rows.lexLt PyProof.Rows.itemOrd (toks (dK (kyOf s))) (toks (dK (kyOf t))) := by
  obtain ⟨a1, a2, a3, a4⟩ := s
  obtain ⟨b1, b2, b3, b4⟩ := t
  rw [toks_S, toks_S, toks_K, toks_K]
  simp only [kyOf] at h ⊢
  rw [PyProof.Rows.lex_self, PyProof.Rows.lex_self]
  by_cases h1 : a1 = b1
  · subst h1
    rw [PyProof.Rows.lex_self, PyProof.Rows.lex_self, PyProof.Rows.lex_self, PyProof.Rows.lex_self]
    by_cases h2 : a2 = b2
    · subst h2
      rw [PyProof.Rows.lex_self, PyProof.Rows.lex_self, PyProof.Rows.lex_self, PyProof.Rows.lex_self]
      have h3 : a3 ≠ b3 := fun e => h (by rw [e])
      rw [PyProof.Rows.lex_diff (cps_ne h3), PyProof.Rows.lex_diff (cps_ne h3)]
    · rw [PyProof.Rows.lex_diff (cps_ne h2), PyProof.Rows.lex_diff (cps_ne h2)]
  · rw [PyProof.Rows.lex_diff (cps_ne h1), PyProof.Rows.lex_diff (cps_ne h1)]
theorem le_total {α : Type} (d : α → PyData) : PySem.W.TotalLe (PySem.W.dataLe false d) := PySem.W.sortLe_total _ _ _
theorem sorted_pair {α : Type} (d : α → PyData) (xs : List α) : (xs.mergeSort fun a b => PySem.W.dataLe false d a b).Pairwise fun a b => PySem.W.dataLe false d a b = true :=
  List.pairwise_mergeSort (le_total d).trans (fun a b => by rcases (le_total d).total a b with h | h <;> simp [h]) xs
theorem le_lt {α : Type} {d : α → PyData} {a b : α} (h : PySem.W.dataLe false d a b = true) : PyProof.Rows.lexLt PyProof.Rows.itemOrd (toks (d b)) (toks (d a)) = false := by
  unfold PySem.W.dataLe PySem.W.sortLe at h
  simpa [toks] using h
/-- keys in their order, each once -/
theorem srt_keys {r : Room} (h : (r.map kyOf).Nodup) : ((srt r).map kyOf).Pairwise klt := by
  have hn : ((srt r).map kyOf).Nodup := ((srt_perm r).map kyOf).nodup_iff.mpr h
  have hp := sorted_pair dS r
  rw [List.pairwise_map]
  have hn := List.pairwise_map.mp hn
  exact (hp.and hn).imp fun ⟨h1, h2⟩ => klt_total h2 fun q => by
    unfold klt at q
    rw [← step_lt (Ne.symm h2)] at q
    have := le_lt h1
    rw [q] at this; cases this
def keysOf (r : Room) : List K3 := (r.map kyOf).mergeSort fun a b => PySem.W.dataLe false dK a b
theorem keysOf_perm (r : Room) : (keysOf r).Perm (r.map kyOf) := List.mergeSort_perm _ _
theorem keysOf_sorted {r : Room} (h : (r.map kyOf).Nodup) : (keysOf r).Pairwise klt := by
  have hn : (keysOf r).Nodup := (keysOf_perm r).nodup_iff.mpr h
  exact ((sorted_pair dK (r.map kyOf)).and hn).imp fun ⟨h1, h2⟩ => klt_total h2 fun q => by
    have := le_lt h1
    unfold klt at q
    rw [q] at this; cases this
theorem keysOf_srt {r : Room} (h : (r.map kyOf).Nodup) : (srt r).map kyOf = keysOf r :=
  pair_ext klt_asymm (srt_keys h) (keysOf_sorted h) fun x => by
    rw [((srt_perm r).map kyOf).mem_iff, (keysOf_perm r).mem_iff]
theorem ordered_sorted {p : Plan} (h : GoodPlan p) : SortK klt (ordered p) := fun r hr => by
  obtain ⟨r', hr', rfl⟩ := List.mem_map.mp hr
  exact srt_keys (h.2 r' hr').2.2
/-! ### the least rooms -/
structure IsLeast (p q : Plan) : Prop where
  good : GoodPlan q
  can : Can q
  red : Red q
  srt : SortK klt q
  same : Same q 0 p 0
theorem GoodPlan.nodk {p : Plan} (h : GoodPlan p) : NodK p := fun r hr => (h.2 r hr).2.2
theorem IsLeast.unique {p p' q q' : Plan} (h : IsLeast p q) (h' : IsLeast p' q') (e : Same p 0 p' 0) : q = q' :=
  can_unique klt_asymm h.can h'.can h.red h'.red h.good.nodk h'.good.nodk h.srt h'.srt ((h.same.trans e).trans h'.same.symm)
theorem IsLeast.self {p q : Plan} (h : IsLeast p q) : IsLeast q q := ⟨h.good, h.can, h.red, h.srt, fun _ => rfl⟩
/-- rooms that come about and are told in their order are least, whoever found the groups -/
theorem least_of {p : Plan} (hg : GoodPlan p) (h0 : p ≠ []) {gs re : List Int} (hs : Stable (ordered p) gs) (hc : Coarse (ordered p) gs) (hb : BI (ordered p) gs re re.length) : IsLeast p (numbered (ordered p) gs re) := by
  have h0' : ordered p ≠ [] := fun e => h0 (List.map_eq_nil_iff.mp e)
  have ht := ordered_tgt hg
  have hl := hb.len ht h0'
  rw [ordered_len] at hl
  have htq := num_tgt ht h0' hb
  refine ⟨⟨by rw [numbered_len]; exact Nat.lt_of_le_of_lt hl hg.1, fun r hr => ?_⟩, num_can hb, num_red ht h0' hs hc hb, fun r hr => ?_, fun ks => ?_⟩
  · have hr0 := hr
    obtain ⟨x, hx, rfl⟩ := List.mem_map.mp hr
    have hxr := hb.range ht h0' x hx
    obtain ⟨r', hr', hp⟩ := ordered_mem (rm_mem hxr.1 hxr.2)
    have hgr := hg.2 r' hr'
    refine ⟨by rw [List.length_map, hp.length_eq]; exact hgr.1, fun s hs => ?_, ?_⟩
    · have hsg := htq _ hr0 s hs
      obtain ⟨y, hy, rfl⟩ := List.mem_map.mp hs
      obtain ⟨g1, g2, g3, _⟩ := hgr.2.1 y (hp.mem_iff.mp hy)
      exact ⟨g1, g2, g3, hsg⟩
    · rw [List.map_map]
      exact (hp.map kyOf).nodup_iff.mpr hgr.2.2
  · obtain ⟨r', hr', e⟩ := num_keys ht h0' hb hr
    rw [e]; exact ordered_sorted hg r' hr'
  · rw [num_rows ht h0' hs hb]
    exact row_perm (fun r _ => srt_perm r) (fun r hr => (hg.2 r hr).2.2) ks 0
theorem LeastOf.isLeast {p q : Plan} (h : LeastOf p q) (hg : GoodPlan p) (h0 : p ≠ []) : IsLeast p q := by
  obtain ⟨gs, re, _, hs, hc, hb, rfl⟩ := h.ex
  exact least_of hg h0 hs (hc (keySame_of klt_asymm (ordered_nodk hg) (ordered_sorted hg))) hb
/-! ### groups by a given relation -/
open Classical in
/-- the first room with the same rows -/
noncomputable def repOf (p : Plan) (j : Nat) : Nat := ((List.range p.length).find? fun i => decide (Same p i p j)).getD 0
theorem repOf_spec {p : Plan} {j : Nat} (hj : j < p.length) : repOf p j < p.length ∧ Same p (repOf p j) p j := by
  classical
  unfold repOf
  cases h : (List.range p.length).find? fun i => decide (Same p i p j) with
  | none =>
    have := List.find?_eq_none.mp h j (List.mem_range.mpr hj)
    exact absurd (show Same p j p j from fun _ => rfl) (by simpa using this)
  | some i =>
    have h1 := List.find?_some h
    have h2 := List.mem_of_find?_eq_some h
    exact ⟨List.mem_range.mp h2, by simpa using h1⟩
theorem repOf_same {p : Plan} {i j : Nat} (h : Same p i p j) : repOf p i = repOf p j := by
  classical
  unfold repOf
  congr 2
  funext k
  have : Same p k p i ↔ Same p k p j := ⟨fun q => q.trans h, fun q => q.trans h.symm⟩
  simp only [this]
noncomputable def repGs (p : Plan) : List Int := (List.range p.length).map fun j => (repOf p j : Int)
theorem repGs_at {p : Plan} {j : Int} (h0 : 0 ≤ j) (h1 : j < p.length) : gAt (repGs p) j = (repOf p j.toNat : Nat) := by
  have : j.toNat < p.length := by omega
  unfold gAt repGs
  simp [this]
theorem repGs_iff {p : Plan} {i j : Int} (i0 : 0 ≤ i) (i1 : i < p.length) (j0 : 0 ≤ j) (j1 : j < p.length) : gAt (repGs p) i = gAt (repGs p) j ↔ Same p i.toNat p j.toNat := by
  rw [repGs_at i0 i1, repGs_at j0 j1]
  constructor
  · intro h
    have h : repOf p i.toNat = repOf p j.toNat := by omega
    have a := (repOf_spec (p := p) (j := i.toNat) (by omega)).2
    have b := (repOf_spec (p := p) (j := j.toNat) (by omega)).2
    rw [h] at a
    exact a.symm.trans b
  · intro h; rw [repOf_same h]
theorem repGs_len (p : Plan) : (repGs p).length = p.length := by simp [repGs]
theorem repGs_coarse (p : Plan) : Coarse p (repGs p) := fun i hi j hj h => (repGs_iff (by omega) (by omega) (by omega) (by omega)).mpr (by simpa using h)
theorem repGs_stable {p : Plan} (ht : Tgt p) (hn : NodK p) (hk : KeySame p) : Stable p (repGs p) := fun i hi j hj h => by
  have hs := (repGs_iff (by omega) (by omega) (by omega) (by omega)).mp h
  simp only [Int.toNat_natCast] at hs
  have e := hk _ (List.getElem_mem hi) _ (List.getElem_mem hj) (same_some hi hj hs)
  show (p[i]).map (setG (gAt (repGs p))) = (p[j]).map (setG (gAt (repGs p)))
  refine room_ext e fun s hs1 s' hs2 ek => ?_
  have w1 := (way_iff (hn _ (List.getElem_mem hi)) (kyOf s) (goalOf s)).mpr ⟨s, hs1, rfl, rfl⟩
  have w2 := (way_iff (hn _ (List.getElem_mem hj)) (kyOf s) (goalOf s')).mpr ⟨s', hs2, ek.symm, rfl⟩
  have t1 := ht _ (List.getElem_mem hi) s hs1
  have t2 := ht _ (List.getElem_mem hj) s' hs2
  exact (repGs_iff t1.1 t1.2 t2.1 t2.2).mpr (same_next hi hj hs w1 w2)
end K

namespace K
open PySem L2 DL PyProof.Rows
/-! ### rows of one behind the other -/
abbrev Lg := List K3 → Bool
/-- the rows of a plan -/
def lang (p : Plan) : Lg := goRow p 0
theorem lang_of {p q : Plan} : Same p 0 q 0 ↔ lang p = lang q := ⟨fun h => funext h, fun h ks => congrFun h ks⟩
def EndL (L : Lg) : Prop := ∀ k, L [k] = false
/-- by a first key -/
def der (L : Lg) (k : K3) : Lg := fun w => L (k :: w)
open Classical in
/-- where the first one ends it goes on as the other one -/
noncomputable def catL (M : Lg) : List K3 → Lg → Bool
  | [], L => if EndL L then M [] else true
  | k :: ks, L => if EndL L then M (k :: ks) else L [k] && catL M ks (der L k)
/-- the same, the rows last -/
noncomputable def cat (L M : Lg) : Lg := fun ks => catL M ks L
theorem cat_end {L M : Lg} (h : EndL L) : cat L M = M := funext fun ks => by
  unfold cat
  cases ks <;> (unfold catL; rw [if_pos h])
theorem cat_nil {L M : Lg} (h : M [] = true) : cat L M [] = true := by
  unfold cat catL; split <;> simp [h]
theorem cat_go {L M : Lg} (h : ¬ EndL L) (k : K3) (ks : List K3) : cat L M (k :: ks) = (L [k] && cat (der L k) M ks) := by
  unfold cat; rw [catL, if_neg h]
theorem cat_one {L M : Lg} (hM : M [] = true) (h : ¬ EndL L) (k : K3) : cat L M [k] = L [k] := by
  rw [cat_go h, cat_nil hM, Bool.and_true]
theorem cat_notEnd {L M : Lg} (hM : M [] = true) (h : ¬ EndL L) : ¬ EndL (cat L M) := fun q => h fun k => by rw [← cat_one hM h]; exact q k
theorem cat_der {L M : Lg} (h : ¬ EndL L) {k : K3} (hk : L [k] = true) : der (cat L M) k = cat (der L k) M := funext fun w => by
  unfold der
  rw [cat_go h, hk, Bool.true_and]; rfl
theorem cat_assoc {M N : Lg} (hM : M [] = true) (hN : N [] = true) : ∀ (ks : List K3) (L : Lg), cat (cat L M) N ks = cat L (cat M N) ks
  | [], L => by rw [cat_nil hN, cat_nil (cat_nil hN)]
  | k :: ks, L => by
    by_cases h : EndL L
    · rw [cat_end h, cat_end h]
    · rw [cat_go (cat_notEnd hM h), cat_one hM h, cat_go (L := L) (M := cat M N) h]
      cases hk : L [k] with
      | false => rfl
      | true =>
        rw [cat_der h hk, cat_assoc hM hN ks]
theorem lang_nil (p : Plan) : lang p [] = true := rfl
/-! of plans -/
def shift (n : Nat) (q : Plan) : Plan := q.map fun r => r.map (setG fun j => j + n)
theorem shift_len (n : Nat) (q : Plan) : (shift n q).length = q.length := by simp [shift]
/-- as the program puts one behind the other -/
def catP (p q : Plan) : Plan := (p.map fun r => if r = [] then rm (shift p.length q) 0 else r) ++ shift p.length q
/-- as the law does -/
def behP (p q : Plan) : Plan := (p.map fun r => r.map (setG fun j => if rm p j = [] then (p.length : Int) else j)) ++ shift p.length q
theorem catP_len (p q : Plan) : (catP p q).length = p.length + q.length := by simp [catP, shift]
theorem behP_len (p q : Plan) : (behP p q).length = p.length + q.length := by simp [behP, shift]
theorem go_way {p : Plan} {i : Nat} (hi : i < p.length) {k : K3} (ks : List K3) : goRow p i (k :: ks) = (match getM (ways p[i]) k with | none => false | some j => goRow p j.toNat ks) := by
  rw [goRow_cons, List.getElem?_eq_getElem hi] <;> rfl
theorem go_one {p : Plan} {i : Nat} (hi : i < p.length) (k : K3) : goRow p i [k] = (getM (ways p[i]) k).isSome := by
  rw [go_way hi]; cases getM (ways p[i]) k <;> rfl
theorem way_nil (k : K3) : getM (ways []) k = none := rfl
theorem end_iff {p : Plan} (hn : NodK p) {i : Nat} (hi : i < p.length) : EndL (goRow p i) ↔ p[i] = [] := by
  constructor
  · intro h
    cases e : p[i] with
    | nil => rfl
    | cons s r =>
      have h1 := h (kyOf s)
      rw [go_one hi] at h1
      have hnd := hn _ (List.getElem_mem hi)
      have := (key_mem hnd (kyOf s)).mp (by rw [e]; simp)
      rw [h1] at this; cases this
  · intro e k
    rw [go_one hi, e]; rfl
theorem tgt_way {p : Plan} (ht : Tgt p) (hn : NodK p) {i : Nat} (hi : i < p.length) {k : K3} {j : Int} (h : getM (ways p[i]) k = some j) : 0 ≤ j ∧ j < p.length := by
  obtain ⟨s, hs, _, e⟩ := (way_iff (hn _ (List.getElem_mem hi)) k j).mp h
  have := ht _ (List.getElem_mem hi) s hs
  rw [e] at this; exact this
theorem shift_get {X q : Plan} {j : Nat} (hj : j < q.length) : (X ++ shift X.length q)[X.length + j]? = some (q[j].map (setG fun j => j + X.length)) := by
  rw [List.getElem?_append_right (by omega)]
  simp [shift, hj]
theorem row_shift {X q : Plan} (n : Nat) (hX : X.length = n) (ht : Tgt q) (hn : NodK q) : ∀ (ks : List K3) (j : Nat), j < q.length → goRow (X ++ shift n q) (n + j) ks = goRow q j ks
  | [], _, _ => rfl
  | k :: ks, j, hj => by
    subst hX
    rw [goRow_cons, shift_get hj, go_way hj]
    dsimp only
    rw [way_set]
    cases e : getM (ways q[j]) k with
    | none => rfl
    | some x =>
      obtain ⟨h0, h1⟩ := tgt_way ht hn hj e
      have ex : (x + (X.length : Int)).toNat = X.length + x.toNat := by omega
      dsimp only [Option.map]
      rw [ex]
      exact row_shift X.length rfl ht hn ks x.toNat (by omega)
theorem rm_shift {n : Nat} {q : Plan} (h0 : q ≠ []) : rm (shift n q) 0 = (rm q 0).map (setG fun j => j + n) := by
  cases q with
  | nil => exact absurd rfl h0
  | cons r q => rfl
theorem row_cat {p q : Plan} (htp : Tgt p) (hnp : NodK p) (htq : Tgt q) (hnq : NodK q) (h0 : q ≠ []) : ∀ (ks : List K3) (i : Nat), i < p.length → goRow (catP p q) i ks = cat (goRow p i) (lang q) ks := by
  have hq0 : 0 < q.length := List.length_pos_iff.mpr h0
  have hsh : ∀ ks j, j < q.length → goRow (catP p q) (p.length + j) ks = goRow q j ks := fun ks j hj => row_shift p.length (by simp) htq hnq ks j hj
  intro ks
  induction ks with
  | nil => intro i hi; rw [cat_nil (lang_nil q)]; rfl
  | cons k ks ih =>
    intro i hi
    have hget : (catP p q)[i]? = some (if p[i] = [] then rm (shift p.length q) 0 else p[i]) := by
      unfold catP
      rw [List.getElem?_append_left (by simpa using hi)]
      simp [hi]
    rw [goRow_cons, hget]
    dsimp only
    by_cases he : p[i] = []
    · rw [if_pos he, cat_end ((end_iff hnp hi).mpr he), rm_shift h0, way_set]
      unfold lang
      have e0 : rm q 0 = q[0] := by unfold rm; simp [hq0]
      rw [go_way hq0, e0]
      cases e : getM (ways q[0]) k with
      | none => rfl
      | some x =>
        obtain ⟨g0, g1⟩ := tgt_way htq hnq hq0 e
        have ex : (x + (p.length : Int)).toNat = p.length + x.toNat := by omega
        dsimp only [Option.map]
        rw [ex]
        exact hsh ks _ (by omega)
    · rw [if_neg he, cat_go (fun z => he ((end_iff hnp hi).mp z)), go_one hi]
      cases e : getM (ways p[i]) k with
      | none => rfl
      | some x =>
        obtain ⟨g0, g1⟩ := tgt_way htp hnp hi e
        have ed : der (goRow p i) k = goRow p x.toNat := funext fun w => by unfold der; rw [go_way hi, e]
        rw [ed]
        simp only [Option.isSome_some, Bool.true_and]
        exact ih x.toNat (by omega)
theorem lang_catP {p q : Plan} (htp : Tgt p) (hnp : NodK p) (htq : Tgt q) (hnq : NodK q) (hp0 : p ≠ []) (h0 : q ≠ []) : lang (catP p q) = cat (lang p) (lang q) :=
  funext fun ks => row_cat htp hnp htq hnq h0 ks 0 (List.length_pos_iff.mpr hp0)
theorem row_beh {p q : Plan} (htp : Tgt p) (hnp : NodK p) (htq : Tgt q) (hnq : NodK q) (h0 : q ≠ []) : ∀ (ks : List K3) (i : Nat) (hi : i < p.length), p[i] ≠ [] → goRow (behP p q) i ks = cat (goRow p i) (lang q) ks := by
  have hq0 : 0 < q.length := List.length_pos_iff.mpr h0
  have hsh : ∀ ks j, j < q.length → goRow (behP p q) (p.length + j) ks = goRow q j ks := fun ks j hj => row_shift p.length (by simp) htq hnq ks j hj
  intro ks
  induction ks with
  | nil => intro i hi _; rw [cat_nil (lang_nil q)]; rfl
  | cons k ks ih =>
    intro i hi he
    have hget : (behP p q)[i]? = some (p[i].map (setG fun j => if rm p j = [] then (p.length : Int) else j)) := by
      unfold behP
      rw [List.getElem?_append_left (by simpa using hi)]
      simp [hi]
    rw [goRow_cons, hget]
    dsimp only
    rw [way_set, cat_go (fun z => he ((end_iff hnp hi).mp z)), go_one hi]
    cases e : getM (ways p[i]) k with
    | none => rfl
    | some x =>
      obtain ⟨g0, g1⟩ := tgt_way htp hnp hi e
      have ed : der (goRow p i) k = goRow p x.toNat := funext fun w => by unfold der; rw [go_way hi, e]
      have hxl : x.toNat < p.length := by omega
      have er : rm p x = p[x.toNat] := by unfold rm; simp [hxl]
      rw [ed]
      simp only [Option.isSome_some, Bool.true_and, Option.map]
      by_cases hx : p[x.toNat] = []
      · rw [if_pos (er.trans hx), cat_end ((end_iff hnp hxl).mpr hx)]
        have := hsh ks 0 hq0
        simpa [lang] using this
      · rw [if_neg (fun z => hx (er.symm.trans z))]
        exact ih x.toNat hxl hx
/-- the law's rooms, as it tells them -/
def lawBeh (p q : Plan) : Plan := if rm p 0 = [] then q else behP p q
theorem lang_beh {p q : Plan} (htp : Tgt p) (hnp : NodK p) (htq : Tgt q) (hnq : NodK q) (hp0 : p ≠ []) (h0 : q ≠ []) : lang (lawBeh p q) = cat (lang p) (lang q) := by
  have hl := List.length_pos_iff.mpr hp0
  have er : rm p 0 = p[0] := by unfold rm; simp [hl]
  unfold lawBeh
  rw [er]
  split
  · rename_i he
    exact (cat_end ((end_iff hnp hl).mpr he)).symm
  · rename_i he
    exact funext fun ks => row_beh htp hnp htq hnq h0 ks 0 hl he
/-! good plans -/
theorem GoodPlan.tgt {p : Plan} (h : GoodPlan p) : Tgt p := fun r hr s hs => ((h.2 r hr).2.1 s hs).2.2.2
theorem good_set {n m : Nat} {r : Room} (h : GoodRoom n r) {f : Int → Int} (hf : ∀ j : Int, 0 ≤ j → j < (n : Int) → 0 ≤ f j ∧ f j < (m : Int)) : GoodRoom m (r.map (setG f)) := by
  refine ⟨by rw [List.length_map]; exact h.1, fun s hs => ?_, ?_⟩
  · obtain ⟨y, hy, rfl⟩ := List.mem_map.mp hs
    obtain ⟨g1, g2, g3, g4⟩ := h.2.1 y hy
    exact ⟨g1, g2, g3, hf _ g4.1 g4.2⟩
  · rw [List.map_map]; exact h.2.2
theorem good_more {n m : Nat} {r : Room} (h : GoodRoom n r) (hm : n ≤ m) : GoodRoom m r :=
  ⟨h.1, fun s hs => by
    obtain ⟨g1, g2, g3, g4⟩ := h.2.1 s hs
    exact ⟨g1, g2, g3, g4.1, by omega⟩, h.2.2⟩
theorem good_shift {p : Plan} {n m : Nat} (h : GoodPlan p) (hm : p.length + n ≤ m) : ∀ r ∈ shift n p, GoodRoom m r := fun r hr => by
  obtain ⟨r', hr', rfl⟩ := List.mem_map.mp hr
  exact good_set (h.2 r' hr') fun j _ _ => by omega
theorem good_catP {p q : Plan} (hp : GoodPlan p) (hq : GoodPlan q) (h0 : q ≠ []) (hz : p.length + q.length < sizeLine) : GoodPlan (catP p q) := by
  have hl := catP_len p q
  have hs := good_shift hq (n := p.length) (m := (catP p q).length) (by omega)
  refine ⟨by omega, fun r hr => ?_⟩
  rcases List.mem_append.mp hr with hr | hr
  · obtain ⟨r', hr', rfl⟩ := List.mem_map.mp hr
    split
    · refine hs _ ?_
      have : 0 < (shift p.length q).length := by rw [shift_len]; exact List.length_pos_iff.mpr h0
      exact rm_mem (by omega) (by simpa using this)
    · exact good_more (hp.2 r' hr') (by omega)
  · exact hs r hr
theorem good_behP {p q : Plan} (hp : GoodPlan p) (hq : GoodPlan q) (h0 : q ≠ []) (hz : p.length + q.length < sizeLine) : GoodPlan (behP p q) := by
  have hl := behP_len p q
  have hq0 := List.length_pos_iff.mpr h0
  refine ⟨by omega, fun r hr => ?_⟩
  rcases List.mem_append.mp hr with hr | hr
  · obtain ⟨r', hr', rfl⟩ := List.mem_map.mp hr
    refine good_set (hp.2 r' hr') fun j g0 g1 => ?_
    split <;> omega
  · exact good_shift hq (n := p.length) (by omega) r hr
theorem good_lawBeh {p q : Plan} (hp : GoodPlan p) (hq : GoodPlan q) (h0 : q ≠ []) (hz : p.length + q.length < sizeLine) : GoodPlan (lawBeh p q) := by
  unfold lawBeh; split
  · exact hq
  · exact good_behP hp hq h0 hz
theorem lawBeh_ne {p q : Plan} (h0 : q ≠ []) : lawBeh p q ≠ [] := by
  unfold lawBeh; split
  · exact h0
  · intro e
    have h1 := congrArg List.length e
    rw [behP_len, List.length_nil] at h1
    have h2 := List.length_pos_iff.mpr h0
    omega
theorem lawBeh_len (p q : Plan) : (lawBeh p q).length ≤ p.length + q.length := by
  unfold lawBeh; split
  · omega
  · rw [behP_len]; omega
end K

namespace K
open PySem L2 DL
local macro_rules | `(tactic| walk_at "dl") => `(tactic| with_reducible first
  | refine es_if ?_ | refine es_append ?_ | refine es_sub ?_ | refine es_par3 ?_ | refine es_parD ?_ | refine es_asg ?_ | refine es_ret ?_ | refine es_retN ?_ | refine es_next ?_ | refine es_drop ?_ | refine es_break ?_ | refine es_cont ?_
  | refine et_val ?_ | refine et_B ?_ | refine et_not ?_ | refine et_and ?_ | refine et_or ?_ | refine et_yes ?_
  | refine ev_op ?_ | refine ev_un ?_ | refine ev_cb ?_ | refine ev_tup ?_ | refine ev_lst ?_ | refine ev_ifx ?_ | refine ev_andV ?_ | refine ev_orV ?_ | refine ev_notV ?_ | refine ev_sl ?_
  | refine ea_cons ?_ | refine ea_nil ?_ | refine ev_int ?_ | refine ev_str ?_ | refine ev_bl ?_ | refine ev_non ?_ | refine eo_none ?_ | refine eo_some ?_
  | refine gts_cons ?_ | refine gts_nil ?_
  | refine o2_addI ?_ | refine o2_ltI ?_ | refine o2_leI ?_ | refine o2_gtI ?_ | refine o2_geI ?_ | refine o2_ltS ?_ | refine o2_leS ?_ | refine o2_gtS ?_ | refine o2_sub ?_
  | refine oa_intI ?_ | refine oa_intB ?_ | refine oa_abs ?_ | refine oa_two ?_ | refine ulen_R ?_ | refine ulen_T ?_ | refine ulen_L LstV.d ?_
  | (refine ⟨_, Pu.d, ?_⟩) | (refine ⟨_, Pu.ptr, ?_⟩) | (refine ⟨_, Pu.fr, ?_⟩))
local macro_rules | `(tactic| walk_at "dv") => `(tactic| first
  | refine ev_var (by rfl) ?_ | refine ev_ptr (.inl (by rfl)) ?_ | refine ev_ptr (.inr (.inl (by rfl))) ?_ | refine ev_ptr (.inr (.inr (by rfl))) ?_
  | refine uix_L (LstV.o ⟨0, .inr (by rfl)⟩) (by rfl) ?_ | refine uix_L LstV.d (by rfl) ?_ | refine uix_T (by rfl) ?_
  | refine gt_tup (by rfl) ?_ | refine gt_name (by first | exact all_in | simp) ?_ | refine ⟨_, rfl, ?_⟩)
local macro_rules | `(tactic| walk_at "e") => `(tactic| repeat (first | walk_at "dl" | walk_at "dv"))
local macro_rules | `(tactic| walk_at "d") => `(tactic| repeat (first | with_reducible refine es_seq ?_ | walk_at "dl" | walk_at "dv"))
section
variable {P : Program} {w : World} {K : PySem.W.Frag} {mg : Str → Option Value} {base : Heap}
abbrev s_shifted : Stmt := topS 7
abbrev N_shifted : List Str := ["rooms", "count", "steps", "sign", "line", "word", "room"]
theorem sc_shifted : FnScope N_shifted ["rooms", "count"] (defScope s_shifted) := ⟨rfl, rfl, rfl, by decide +kernel, rfl, by decide +kernel, by decide +kernel⟩

def SShifted : List T → (RT → Prop) → Prop := fun ts P => ∃ (p : Plan) (n : Nat), p.length < sizeLine ∧ (∀ r ∈ p, r.length < sizeLine) ∧ ts = [ePlan p, .int n] ∧ P (.new (.lst ((shift n p).map eRoom)))
theorem ok_shifted {f : Addr} {fd : FuncData} (Fn : Fun K "shifted" "shifted" s_shifted f fd) (TX : TXF mg) : FnOk P w K mg base CX0 1 f fd ["rooms", "count"] (spP ⟨P, w, K⟩ SShifted) := by
  refine Fn.ok sc_shifted (fun vs H Q E h => ?_) (fun cdv A outer s H vs Q E hr h => ?_)
  · obtain ⟨F, ts, _, hd, P, ⟨_, _, _, _, rfl, _⟩, _⟩ := h
    rw [hd.length]; rfl
  · obtain ⟨F, ts, fh, hd, PP, ⟨p, n, hp1, hp2, rfl, hk⟩, q⟩ := h
    have hu := hr.units
    refine ⟨_, (pss_one (ps_ret (pe_lc (own := [("steps", 2)]) (by rfl) sc_shifted.nd (pi_listB ⟨P, w, K⟩ rfl (pv 0)) (blkOk_by (N := N_shifted) (sc := defScope s_shifted) (by decide +kernel)) (fun _ _ _ _ _ => (pg_name (i := 2) sc_shifted.nd rfl (Or.inl rfl))) (fun _ _ _ _ _ => pts_nil) (fun _ _ _ _ _ => (pe_lc (own := [("sign", 3), ("line", 4), ("word", 5), ("room", 6)]) (by rfl) sc_shifted.nd (pi_listB ⟨P, w, K⟩ rfl (pv 2)) (blkOk_by (N := N_shifted) (sc := _) (by rfl)) (fun _ _ _ _ _ => (pg_tupB ⟨P, w, K⟩ rfl 4 rfl (pgs_cons (pg_name (i := 3) sc_shifted.nd rfl (Or.inl rfl)) (pgs_cons (pg_name (i := 4) sc_shifted.nd rfl (Or.inl rfl)) (pgs_cons (pg_name (i := 5) sc_shifted.nd rfl (Or.inl rfl)) (pgs_cons (pg_name (i := 6) sc_shifted.nd rfl (Or.inl rfl)) pgs_nil)))))) (fun _ _ _ _ _ => pts_nil) (fun _ _ _ _ _ => (pe_tup (pa_cons (pv 3) (pa_cons (pv 4) (pa_cons (pv 5) (pa_cons (pe_op (op_addB ⟨P, w, K⟩ rfl) (pv 6) (pv 1)) pa_nil))))))))))), ?_⟩
    refine run_P (n := 5) fh hd rfl q ?_
    dsimp only [cxOf]
    refine es_ret ?_
    refine ev_lcI (ei_L ?_)
    walk_at "e"
    refine ⟨by rw [List.length_map]; exact Nat.le_of_lt hp1, fun i acc δ => acc = (shift n (p.take i)).map eRoom ∧ δ = [.d (ePlan p), .d (.int n), .no, .no, .no, .no, .no], ⟨by simp [shift], rfl⟩, fun _ _ _ _ => trivial, ?_, ?_⟩
    · rintro i t acc δ hti _ ⟨rfl, rfl⟩
      rw [List.getElem?_map] at hti
      obtain ⟨r, hr', rfl⟩ := Option.map_eq_some_iff.mp hti
      have hrz := hp2 r (List.mem_of_getElem? hr')
      walk_at "d"
      refine ite2 (fun _ => ?_) (fun h => nomatch h)
      refine ev_lcI (ei_L ?_)
      walk_at "d"
      refine ⟨by rw [List.length_map]; exact Nat.le_of_lt hrz, fun j acc δ => acc = ((r.take j).map (setG fun j => j + n)).map eS ∧ δ = [.d (ePlan p), .d (.int n), .d (eRoom r), .no, .no, .no, .no], ⟨by simp, rfl⟩, fun _ _ _ _ => trivial, ?_, ?_⟩
      · rintro j t acc δ htj _ ⟨rfl, rfl⟩
        rw [List.getElem?_map] at htj
        obtain ⟨st, hs', rfl⟩ := Option.map_eq_some_iff.mp htj
        obtain ⟨s1, s2, s3, s4⟩ := st
        walk_at "d"
        refine ite2 (fun _ => ?_) (fun h => nomatch h)
        walk_at "d"
        refine ⟨[.str s1, .str s2, .str s3, .int (s4 + n)], rfl, (show 4 ≤ sizeLine by decide +kernel), _, Pu.d, ?_, rfl⟩
        rw [List.take_add_one, hs']; simp [setG, eS, goalOf]
      · rintro acc δ _ ⟨rfl, rfl⟩ p1
        refine ⟨_, Pu.fr, ?_, rfl⟩
        rw [List.length_map, List.take_length, List.take_add_one, hr']; simp [shift, eRoom]
    · rintro acc δ _ ⟨rfl, rfl⟩ p1
      rw [List.length_map, List.take_length]
      exact hk
end
end K

namespace K
open PySem L2 DL
local macro_rules | `(tactic| walk_at "dl") => `(tactic| with_reducible first
  | refine es_if ?_ | refine es_append ?_ | refine es_sub ?_ | refine es_par3 ?_ | refine es_parD ?_ | refine es_asg ?_ | refine es_ret ?_ | refine es_retN ?_ | refine es_next ?_ | refine es_drop ?_ | refine es_break ?_ | refine es_cont ?_
  | refine et_val ?_ | refine et_B ?_ | refine et_not ?_ | refine et_and ?_ | refine et_or ?_ | refine et_yes ?_
  | refine ev_op ?_ | refine ev_un ?_ | refine ev_cb ?_ | refine ev_tup ?_ | refine ev_lst ?_ | refine ev_ifx ?_ | refine ev_andV ?_ | refine ev_orV ?_ | refine ev_notV ?_ | refine ev_sl ?_
  | refine ea_cons ?_ | refine ea_nil ?_ | refine ev_int ?_ | refine ev_str ?_ | refine ev_bl ?_ | refine ev_non ?_ | refine eo_none ?_ | refine eo_some ?_
  | refine gts_cons ?_ | refine gts_nil ?_
  | refine o2_addI ?_ | refine o2_ltI ?_ | refine o2_leI ?_ | refine o2_gtI ?_ | refine o2_geI ?_ | refine o2_ltS ?_ | refine o2_leS ?_ | refine o2_gtS ?_ | refine o2_sub ?_
  | refine oa_intI ?_ | refine oa_intB ?_ | refine oa_abs ?_ | refine oa_two ?_ | refine ulen_R ?_ | refine ulen_T ?_ | refine ulen_L LstV.d ?_
  | (refine ⟨_, Pu.d, ?_⟩) | (refine ⟨_, Pu.ptr, ?_⟩) | (refine ⟨_, Pu.fr, ?_⟩))
local macro_rules | `(tactic| walk_at "dv") => `(tactic| first
  | refine ev_var (by rfl) ?_ | refine ev_ptr (.inl (by rfl)) ?_ | refine ev_ptr (.inr (.inl (by rfl))) ?_ | refine ev_ptr (.inr (.inr (by rfl))) ?_
  | refine uix_L (LstV.o ⟨0, .inr (by rfl)⟩) (by rfl) ?_ | refine uix_L LstV.d (by rfl) ?_ | refine uix_T (by rfl) ?_
  | refine gt_tup (by rfl) ?_ | refine gt_name (by first | exact all_in | simp) ?_ | refine ⟨_, rfl, ?_⟩)
local macro_rules | `(tactic| walk_at "e") => `(tactic| repeat (first | walk_at "dl" | walk_at "dv"))
local macro_rules | `(tactic| walk_at "d") => `(tactic| repeat (first | with_reducible refine es_seq ?_ | walk_at "dl" | walk_at "dv"))
section
variable {P : Program} {w : World} {K : PySem.W.Frag} {mg : Str → Option Value} {base : Heap}
abbrev s_Service_rooms : Stmt := inClass (topS 20) 1
abbrev N_Service_rooms : List Str := ["self", "steps"]
theorem sc_Service_rooms : FnScope N_Service_rooms ["self"] (defScope s_Service_rooms) := ⟨rfl, rfl, rfl, by decide +kernel, rfl, by decide +kernel, by decide +kernel⟩

def SRooms (C : Addr) : List T → (RT → Prop) → Prop := fun ts P => ∃ p : Plan, p.length < sizeLine ∧ ts = [objS C p] ∧ P (.new (.lst (p.map eRoom)))
theorem ok_rooms {f C : Addr} {fd : FuncData} (Fn : Fun K "rooms" "Service.rooms" s_Service_rooms f fd) (TX : TXF mg) (hC : Cls K C) (hR : NoAttr K C "_rooms") : FnOk P w K mg base CX0 1 f fd ["self"] (spP ⟨P, w, K⟩ (SRooms C)) := by
  refine Fn.ok sc_Service_rooms (fun vs H Q E h => ?_) (fun cdv A outer s H vs Q E hr h => ?_)
  · obtain ⟨F, ts, _, hd, P, ⟨_, _, rfl, _⟩, _⟩ := h
    rw [hd.length]; rfl
  · obtain ⟨F, ts, fh, hd, PP, ⟨p, hp1, rfl, hk⟩, q⟩ := h
    have hu := hr.units
    refine ⟨_, (pss_one (ps_ret (pe_lc (own := [("steps", 1)]) (by rfl) sc_Service_rooms.nd (pi_listB ⟨P, w, K⟩ rfl (pe_fldB ⟨P, w, K⟩ rfl (pv 0) (by rfl))) (blkOk_by (N := N_Service_rooms) (sc := defScope s_Service_rooms) (by decide +kernel)) (fun _ _ _ _ _ => (pg_name (i := 1) sc_Service_rooms.nd rfl (Or.inl rfl))) (fun _ _ _ _ _ => pts_nil) (fun _ _ _ _ _ => (pe_callTy (call_listB ⟨P, w, K⟩ rfl) (by rfl) TX.n_list (by decide +kernel) (pa_cons (pv 1) pa_nil)))))), ?_⟩
    refine run_P (n := 1) fh hd rfl q ?_
    dsimp only [cxOf]
    refine es_ret ?_
    refine ev_lcI (ei_L ?_)
    refine ev_fld (ns := ["_rooms"]) (us := [ePlan p]) (t := ePlan p) hC hR ?_
    refine ev_var (by rfl) ⟨rfl, rfl, ?_⟩
    refine ⟨_, Pu.d, by rw [List.length_map]; exact Nat.le_of_lt hp1, fun i acc δ => acc = (p.take i).map eRoom ∧ δ = [.d (objS C p), .no], ⟨by simp, rfl⟩, fun _ _ _ _ => trivial, ?_, ?_⟩
    · rintro i t acc δ hti _ ⟨rfl, rfl⟩
      rw [List.getElem?_map] at hti
      obtain ⟨r, hr', rfl⟩ := Option.map_eq_some_iff.mp hti
      walk_at "d"
      refine ite2 (fun _ => ?_) (fun h => nomatch h)
      walk_at "d"
      refine oa_list LstV.d fun p1 => ?_
      refine ⟨_, Pu.fr, ?_, rfl⟩
      rw [List.take_add_one, hr']; simp [eRoom]
    · rintro acc δ _ ⟨rfl, rfl⟩ p1
      rw [List.length_map, List.take_length]
      exact hk
abbrev s_Service___len__ : Stmt := inClass (topS 20) 3
abbrev N_Service___len__ : List Str := ["self"]
theorem sc_Service___len__ : FnScope N_Service___len__ ["self"] (defScope s_Service___len__) := ⟨rfl, rfl, rfl, by decide +kernel, rfl, by decide +kernel, by decide +kernel⟩

def SLen (C : Addr) : List T → (RT → Prop) → Prop := fun ts P => ∃ p : Plan, ts = [objS C p] ∧ P (.d (.int p.length))
theorem ok_len {f C : Addr} {fd : FuncData} (Fn : Fun K "__len__" "Service.__len__" s_Service___len__ f fd) (TX : TXF mg) (hC : Cls K C) (hR : NoAttr K C "_rooms") : FnOk P w K mg base CX0 1 f fd ["self"] (spP ⟨P, w, K⟩ (SLen C)) := by
  refine Fn.ok sc_Service___len__ (fun vs H Q E h => ?_) (fun cdv A outer s H vs Q E hr h => ?_)
  · obtain ⟨F, ts, _, hd, P, ⟨_, rfl, _⟩, _⟩ := h
    rw [hd.length]; rfl
  · obtain ⟨F, ts, fh, hd, PP, ⟨p, rfl, hk⟩, q⟩ := h
    have hu := hr.units
    refine ⟨_, (pss_one (ps_ret (pe_callB (call_lenB ⟨P, w, K⟩ rfl hu) (by rfl) TX.n_len (by decide +kernel) (pa_cons (pe_fldB ⟨P, w, K⟩ rfl (pv 0) (by rfl)) pa_nil)))), ?_⟩
    refine run_P (n := 0) fh hd rfl q ?_
    dsimp only [cxOf]
    refine es_ret (ev_cb (ea_cons ?_))
    refine ev_fld (ns := ["_rooms"]) (us := [ePlan p]) (t := ePlan p) hC hR ?_
    refine ev_var (by rfl) ⟨rfl, rfl, ?_⟩
    refine ⟨_, Pu.d, ea_nil ?_⟩
    refine ulen_L LstV.d ?_
    rw [List.length_map]
    exact hk
abbrev s_Service___eq__ : Stmt := inClass (topS 20) 4
abbrev N_Service___eq__ : List Str := ["self", "other"]
theorem sc_Service___eq__ : FnScope N_Service___eq__ ["self", "other"] (defScope s_Service___eq__) := ⟨rfl, rfl, rfl, by decide +kernel, rfl, by decide +kernel, by decide +kernel⟩

/-- what isinstance asks of an own class -/
structure IsO (K : PySem.W.Frag) (C : Addr) : Prop where
  ha : PySem.W.findIn K (.ref C) "__class__" = some (some (.builtin "object.__class__"))
  hn : PySem.W.specialIn K (.builtin "object.__class__") "__get__" = some (some (.builtin "getset_descriptor.__get__"))
  htk : PySem.W.takesIn K (.builtin "object.__class__") = some true
  hm : PySem.W.mroIn K C (.type "object") = some true
theorem oa_isO {c : Cn} {δ : List SV} {Post : List SV → SV → Prop} {C : Addr} {ns : List Str} {us : List T} (hC : Cls c.B.K C) (I : IsO c.B.K C) (k : Post δ (.d (.bl true))) : OPA c (rIsi c.B.K) δ [.d (.obj C ns us), .d (.raw (.ref C))] Post := by
  refine oa_isi (tv := .ref C) (.own C) (fun F H v e h => ?_) (by simp [PySem.W.kitOne]) k
  simp only [DV] at h
  obtain ⟨a, dx, fs, rfl, h1, _⟩ := h
  exact .base (.ins (e _ _ h1) hC I.ha I.hn I.htk I.hm)
def SEq (C : Addr) : List T → (RT → Prop) → Prop := fun ts P => ∃ p q : Plan, GoodPlan p ∧ GoodPlan q ∧ ts = [objS C p, objS C q] ∧ P (.d (.bl (decide (p = q))))
theorem ePlan_shaped {p : Plan} (h : GoodPlan p) : SeqAt.shaped (dPlan p) = true := by
  refine shaped_of ?_ ?_
  · show PyData.canLayAll0 (p.map dRoom) = true
    exact all_lay fun r hr => dRoom_lay fun s hs => ((h.2 r hr).2.1 s hs).ok
  · show PyData.depthAll (p.map dRoom) + 1 ≤ 64
    have := all_depth (d := dRoom) (n := 2) (xs := p) fun r _ => dRoom_depth r
    omega
theorem dPlan_eqv (p q : Plan) : PyData.eqv (dPlan p) (dPlan q) = decide (p = q) := by
  show PyData.eqvAll (p.map dRoom) (q.map dRoom) = _
  exact eqvAll_map dRoom_eqv p q
theorem ok_eq {f C : Addr} {fd : FuncData} (Fn : Fun K "__eq__" "Service.__eq__" s_Service___eq__ f fd) (TX : TXF mg) (hC : Cls K C) (hR : NoAttr K C "_rooms") (G_Service : mg "Service" = some (.ref C) ∧ RelV (.ref C) (.ref C)) (I : IsO K C) : FnOk P w K mg base CX0 1 f fd ["self", "other"] (spP ⟨P, w, K⟩ (SEq C)) := by
  refine Fn.ok sc_Service___eq__ (fun vs H Q E h => ?_) (fun cdv A outer s H vs Q E hr h => ?_)
  · obtain ⟨F, ts, _, hd, P, ⟨_, _, _, _, rfl, _⟩, _⟩ := h
    rw [hd.length]; rfl
  · obtain ⟨F, ts, fh, hd, PP, ⟨p, q', hgp, hgq, rfl, hk⟩, q⟩ := h
    have hu := hr.units
    refine ⟨_, (pss_cons (ps_if (pt_not (pt_val (pe_callB (call_isiB ⟨P, w, K⟩ rfl) (by rfl) TX.n_isinstance (by decide +kernel) (pa_cons (pv 1) (pa_cons (pe_glob (by rfl) G_Service.1 G_Service.2) pa_nil))))) (pss_one (ps_ret pe_bl)) pss_nil)
    (pss_one (ps_ret (pe_cmpR (op_eqB ⟨P, w, K⟩ rfl hu) (pe_fldB ⟨P, w, K⟩ rfl (pv 0) (by rfl)) (pe_fldB ⟨P, w, K⟩ rfl (pv 1) (by rfl)) (nomark _))))), ?_⟩
    refine run_P (n := 0) fh hd rfl q ?_
    dsimp only [cxOf]
    refine es_seq ?_
    refine es_if (et_not (et_val (ev_cb (ea_cons ?_))))
    walk_at "e"
    refine ev_k (t := .raw (.ref C)) (fun F => by simp only [DV]) ⟨_, Pu.d, ea_nil ?_⟩
    refine oa_isO hC I ⟨_, rfl, ?_⟩
    refine ite2 (fun h => nomatch h) (fun _ => ?_)
    walk_at "d"
    refine ev_fld (ns := ["_rooms"]) (us := [ePlan p]) (t := ePlan p) hC hR ?_
    refine ev_var (by rfl) ⟨rfl, rfl, ?_⟩
    refine ⟨_, Pu.d, ?_⟩
    refine ev_fld (ns := ["_rooms"]) (us := [ePlan q']) (t := ePlan q') hC hR ?_
    refine ev_var (by rfl) ⟨rfl, rfl, ?_⟩
    refine ⟨_, Pu.d, ?_⟩
    refine o2_eq (t := ePlan p) (u := ePlan q') (ePlan_py p) (ePlan_py q') (ePlan_shaped hgp) (ePlan_shaped hgq) (dPlan_eqv p q') ?_
    exact hk
end
end K

namespace K
open PySem L2 DL
local macro_rules | `(tactic| walk_at "dl") => `(tactic| with_reducible first
  | refine es_if ?_ | refine es_append ?_ | refine es_sub ?_ | refine es_par3 ?_ | refine es_parD ?_ | refine es_asg ?_ | refine es_ret ?_ | refine es_retN ?_ | refine es_next ?_ | refine es_drop ?_ | refine es_break ?_ | refine es_cont ?_
  | refine et_val ?_ | refine et_B ?_ | refine et_not ?_ | refine et_and ?_ | refine et_or ?_ | refine et_yes ?_
  | refine ev_op ?_ | refine ev_un ?_ | refine ev_cb ?_ | refine ev_tup ?_ | refine ev_lst ?_ | refine ev_ifx ?_ | refine ev_andV ?_ | refine ev_orV ?_ | refine ev_notV ?_ | refine ev_sl ?_
  | refine ea_cons ?_ | refine ea_nil ?_ | refine ev_int ?_ | refine ev_str ?_ | refine ev_bl ?_ | refine ev_non ?_ | refine eo_none ?_ | refine eo_some ?_
  | refine gts_cons ?_ | refine gts_nil ?_
  | refine o2_addI ?_ | refine o2_ltI ?_ | refine o2_leI ?_ | refine o2_gtI ?_ | refine o2_geI ?_ | refine o2_ltS ?_ | refine o2_leS ?_ | refine o2_gtS ?_ | refine o2_sub ?_
  | refine oa_intI ?_ | refine oa_intB ?_ | refine oa_abs ?_ | refine oa_two ?_ | refine ulen_R ?_ | refine ulen_T ?_ | refine ulen_L LstV.d ?_
  | (refine ⟨_, Pu.d, ?_⟩) | (refine ⟨_, Pu.ptr, ?_⟩) | (refine ⟨_, Pu.fr, ?_⟩))
local macro_rules | `(tactic| walk_at "dv") => `(tactic| first
  | refine ev_var (by rfl) ?_ | refine ev_ptr (.inl (by rfl)) ?_ | refine ev_ptr (.inr (.inl (by rfl))) ?_ | refine ev_ptr (.inr (.inr (by rfl))) ?_
  | refine uix_L (LstV.o ⟨0, .inr (by rfl)⟩) (by rfl) ?_ | refine uix_L LstV.d (by rfl) ?_ | refine uix_T (by rfl) ?_
  | refine gt_tup (by rfl) ?_ | refine gt_name (by first | exact all_in | simp) ?_ | refine ⟨_, rfl, ?_⟩)
local macro_rules | `(tactic| walk_at "e") => `(tactic| repeat (first | walk_at "dl" | walk_at "dv"))
local macro_rules | `(tactic| walk_at "d") => `(tactic| repeat (first | with_reducible refine es_seq ?_ | walk_at "dl" | walk_at "dv"))
section
variable {P : Program} {w : World} {K : PySem.W.Frag} {mg : Str → Option Value} {base : Heap}
abbrev s_Service___rshift__ : Stmt := inClass (topS 20) 5
abbrev N_Service___rshift__ : List Str := ["self", "other", "behind", "steps"]
theorem sc_Service___rshift__ : FnScope N_Service___rshift__ ["self", "other"] (defScope s_Service___rshift__) := ⟨rfl, rfl, rfl, by decide +kernel, rfl, by decide +kernel, by decide +kernel⟩

def SBehind (C : Addr) : List T → (RT → Prop) → Prop := fun ts P => ∃ p q : Plan, GoodPlan p ∧ GoodPlan q ∧ p ≠ [] ∧ q ≠ [] ∧ p.length + q.length < sizeLine ∧ ts = [objS C p, objS C q] ∧ ∀ z, LeastOf (catP p q) z → P (.d (objS C z))
theorem ok_rshift {f C fi : Addr} {fd : FuncData} (Fn : Fun K "__rshift__" "Service.__rshift__" s_Service___rshift__ f fd) (TX : TXF mg) (CL_Service : Cls K C) (hR : NoAttr K C "_rooms") (MK_Service : Mk K C fi) (MK_Service_mg : mg "Service" = some (.ref C)) (C_Service___init__ : CalM P w K mg base 4 fi ["self", "rooms"] (spM ⟨P, w, K⟩ (SInit C)))
    (C_shifted : Cal P w K mg base CX0 "shifted" 1 ["rooms", "count"] (spP ⟨P, w, K⟩ SShifted)) : FnOk P w K mg base CX0 6 f fd ["self", "other"] (spP ⟨P, w, K⟩ (SBehind C)) := by
  refine Fn.ok sc_Service___rshift__ (fun vs H Q E h => ?_) (fun cdv A outer s H vs Q E hr h => ?_)
  · obtain ⟨F, ts, _, hd, P, ⟨_, _, _, _, _, _, _, rfl, _⟩, _⟩ := h
    rw [hd.length]; rfl
  · obtain ⟨F, ts, fh, hd, PP, ⟨p, q', hgp, hgq, hp0, hq0, hz, rfl, hk⟩, q⟩ := h
    have hu := hr.units
    have hql := List.length_pos_iff.mpr hq0
    refine ⟨_, (pss_cons (ps_set (i := 2) sc_Service___rshift__.nd rfl (Or.inr rfl) (pe_call C_shifted.ok (hr.mono (by decide)) (by rfl) C_shifted.mg C_shifted.kp C_shifted.bd .nil pass0 (pa_cons (pe_fldB ⟨P, w, K⟩ rfl (pv 1) (by rfl)) (pa_cons (pe_callB (call_lenB ⟨P, w, K⟩ rfl hu) (by rfl) TX.n_len (by decide +kernel) (pa_cons (pe_fldB ⟨P, w, K⟩ rfl (pv 0) (by rfl)) pa_nil)) pa_nil))))
    (pss_one (ps_ret (pe_make MK_Service C_Service___init__.ok (hr.mono (by decide)) (by rfl) MK_Service_mg C_Service___init__.bd .nil pass0 (pa_cons (pe_op (op_addB ⟨P, w, K⟩ rfl) (pe_lc (own := [("steps", 3)]) (by rfl) sc_Service___rshift__.nd (pi_listB ⟨P, w, K⟩ rfl (pe_fldB ⟨P, w, K⟩ rfl (pv 0) (by rfl))) (blkOk_by (N := N_Service___rshift__) (sc := defScope s_Service___rshift__) (by decide +kernel)) (fun _ _ _ _ _ => (pg_name (i := 3) sc_Service___rshift__.nd rfl (Or.inl rfl))) (fun _ _ _ _ _ => pts_nil) (fun _ _ _ _ _ => (pe_orTB ⟨P, w, K⟩ rfl (pv 3) (pe_one (pe_ix (ix_B ⟨P, w, K⟩ rfl hu) (pv 2) pe_int (fun _ _ => rfl)))))) (pv 2)) pa_nil))))), ?_⟩
    refine run_P (n := 2) fh hd rfl q ?_
    dsimp only [cxOf]
    refine es_seq ?_
    refine es_asg (ev_callPn (ea_cons ?_))
    refine ev_fld (ns := ["_rooms"]) (us := [ePlan q']) (t := ePlan q') CL_Service hR ?_
    refine ev_var (by rfl) ⟨rfl, rfl, ?_⟩
    refine ⟨_, Pu.d, ea_cons (ev_cb (ea_cons ?_))⟩
    refine ev_fld (ns := ["_rooms"]) (us := [ePlan p]) (t := ePlan p) CL_Service hR ?_
    refine ev_var (by rfl) ⟨rfl, rfl, ?_⟩
    refine ⟨_, Pu.d, ea_nil ?_⟩
    refine ulen_L LstV.d ⟨_, Pu.d, ea_nil ?_⟩
    refine ⟨[ePlan q', .int (p.map eRoom).length], rfl, q', (p.map eRoom).length, by omega, fun r hr => (hgq.2 r hr).1, rfl, fun p1 => ?_⟩
    rw [List.length_map]
    refine gt_name all_in ?_
    refine es_frz (i := 2) rfl rfl ?_
    refine es_ret (ev_make (ea_cons (ev_op ?_)))
    refine ev_lcI (ei_L ?_)
    refine ev_fld (ns := ["_rooms"]) (us := [ePlan p]) (t := ePlan p) CL_Service hR ?_
    refine ev_var (by rfl) ⟨rfl, rfl, ?_⟩
    refine ⟨_, Pu.d, by rw [List.length_map]; omega, fun i acc δ => acc = ((p.take i).map fun r => if r = [] then rm (shift p.length q') 0 else r).map eRoom ∧ δ = [.d (objS C p), .d (objS C q'), .d (ePlan (shift p.length q')), .no], ⟨by simp, rfl⟩, fun _ _ _ _ => trivial, ?_, ?_⟩
    · rintro i t acc δ hti _ ⟨rfl, rfl⟩
      rw [List.getElem?_map] at hti
      obtain ⟨r, hr', rfl⟩ := Option.map_eq_some_iff.mp hti
      walk_at "d"
      refine ite2 (fun _ => ?_) (fun h => nomatch h)
      refine ev_orT ?_
      walk_at "d"
      refine ⟨_, .lst LstV.d, ?_⟩
      by_cases he : r = []
      · subst he
        refine ite2 (fun h => nomatch h) (fun _ => ?_)
        walk_at "d"
        have h0 : 0 < (shift p.length q').length := by rw [shift_len]; exact hql
        have e0 : atI ((shift p.length q').map eRoom) 0 = some (eRoom (rm (shift p.length q') 0)) := rm_at (by decide) (by simpa using h0)
        refine uix_L LstV.d e0 ?_
        refine ⟨_, Pu.d, ?_, rfl⟩
        rw [List.take_add_one, hr']; simp
      · have : (!(r.map eS).isEmpty) = true := by cases r <;> simp_all
        rw [this]
        refine ite2 (fun _ => ?_) (fun h => absurd rfl h)
        refine ⟨_, Pu.d, ?_, rfl⟩
        rw [List.take_add_one, hr']; simp [he, eRoom]
    · rintro acc δ _ ⟨rfl, rfl⟩ p2
      rw [List.length_map, List.take_length]
      refine ⟨_, Pu.fr, ?_⟩
      walk_at "e"
      have hgc := good_catP hgp hgq hq0 hz
      have e1 : (p.map fun r => if r = [] then rm (shift p.length q') 0 else r).map eRoom ++ (shift p.length q').map eRoom = (catP p q').map eRoom := by unfold catP; rw [List.map_append]
      refine o2_cat LstV.d LstV.d (by rw [List.length_map, List.length_map, List.length_map, shift_len]; omega) fun p3 => ?_
      rw [e1]
      refine ⟨_, Pu.fr, ea_nil ?_⟩
      have hc0 : catP p q' ≠ [] := fun e => by
        have := catP_len p q'
        rw [e] at this; simp at this; omega
      exact ⟨[ePlan (catP p q')], rfl, fun dx => ⟨fun o r => r = .d .non ∧ ∃ z, LeastOf (catP p q') z ∧ o = .ins C dx ["_rooms"] [ePlan z], ⟨dx, catP p q', rfl, hgc, hc0, rfl, fun z hz => ⟨rfl, z, hz, rfl⟩⟩, fun o r ⟨e1, z, hz, e2⟩ => ⟨_, _, e2, e1, hk z hz⟩⟩⟩
end
end K

namespace K
open PySem L2 DL PyProof.Rows
/-- z are the least rooms with these rows -/
structure Lst (z : Plan) (L : Lg) : Prop where
  good : GoodPlan z
  can : Can z
  red : Red z
  srt : SortK klt z
  eq : lang z = L
theorem IsLeast.lst {p z : Plan} (h : IsLeast p z) : Lst z (lang p) := ⟨h.good, h.can, h.red, h.srt, lang_of.mp h.same⟩
theorem Lst.unique {z z' : Plan} {L : Lg} (h : Lst z L) (h' : Lst z' L) : z = z' :=
  can_unique klt_asymm h.can h'.can h.red h'.red h.good.nodk h'.good.nodk h.srt h'.srt (lang_of.mpr (h.eq.trans h'.eq.symm))
theorem Lst.ne {z : Plan} {L : Lg} (h : Lst z L) : z ≠ [] := h.can.ne
theorem Lst.nil {z : Plan} {L : Lg} (h : Lst z L) : L [] = true := by rw [← h.eq]; exact lang_nil z
theorem catP_ne {p q : Plan} (h0 : q ≠ []) : catP p q ≠ [] := fun e => by
  have h1 := catP_len p q
  rw [e, List.length_nil] at h1
  have := List.length_pos_iff.mpr h0
  omega
theorem lst_cat {p q z : Plan} {L M : Lg} (hp : Lst p L) (hq : Lst q M) (hz : p.length + q.length < sizeLine) (h : LeastOf (catP p q) z) : Lst z (cat L M) ∧ z.length ≤ p.length + q.length := by
  have hg := good_catP hp.good hq.good hq.ne hz
  have h1 := (h.isLeast hg (catP_ne hq.ne)).lst
  rw [lang_catP hp.good.tgt hp.good.nodk hq.good.tgt hq.good.nodk hp.ne hq.ne, hp.eq, hq.eq] at h1
  have := (h.good hg (catP_ne hq.ne)).2.2
  rw [catP_len] at this
  exact ⟨h1, this⟩
theorem lst_beh {p q z : Plan} {L M : Lg} (hp : Lst p L) (gq : GoodPlan q) (nq : q ≠ []) (eq : lang q = M) (h : IsLeast (lawBeh p q) z) : Lst z (cat L M) := by
  have h1 := h.lst
  rw [lang_beh hp.good.tgt hp.good.nodk gq.tgt gq.nodk hp.ne nq, hp.eq, eq] at h1
  exact h1
theorem lst_self {p z : Plan} {L : Lg} (hp : Lst p L) (h : LeastOf p z) : z = p := by
  have h1 := (h.isLeast hp.good hp.ne).lst
  rw [hp.eq] at h1
  exact h1.unique hp
theorem Lst.assoc {z L M N : _} (hM : M [] = true) (hN : N [] = true) (h : Lst z (cat (cat L M) N)) : Lst z (cat L (cat M N)) := by
  have e : cat (cat L M) N = cat L (cat M N) := funext fun ks => cat_assoc hM hN ks L
  rw [e] at h; exact h
end K

namespace K
open PySem L2 DL PyProof.Rows
/-! ### the mirror -/
def flipT (x : Str) : Str := if x = "!" then "?" else if x = "?" then "!" else x
theorem flipT_two (x : Str) : flipT (flipT x) = x := by
  have h : ("?" : Str) ≠ "!" := by decide
  unfold flipT
  by_cases h1 : x = "!"
  · subst h1; simp [h]
  · by_cases h2 : x = "?"
    · subst h2; simp [h]
    · simp [h1, h2]
def flipK (k : K3) : K3 := (flipT k.1, k.2)
theorem flipK_two (k : K3) : flipK (flipK k) = k := Prod.ext (flipT_two k.1) rfl
theorem flipK_inj {a b : K3} (h : flipK a = flipK b) : a = b := by rw [← flipK_two a, h, flipK_two]
def flipS (s : Stp) : Stp := (flipT s.1, s.2)
theorem flipS_key (s : Stp) : kyOf (flipS s) = flipK (kyOf s) := rfl
theorem flipS_goal (s : Stp) : goalOf (flipS s) = goalOf s := rfl
def mirP (p : Plan) : Plan := p.map fun r => r.map flipS
theorem mirP_len (p : Plan) : (mirP p).length = p.length := by simp [mirP]
def mirL (L : Lg) : Lg := fun ks => L (ks.map flipK)
theorem mirL_two (L : Lg) : mirL (mirL L) = L := funext fun ks => by
  unfold mirL
  rw [List.map_map, show flipK ∘ flipK = id from funext flipK_two, List.map_id]
theorem way_flip {r : Room} (h : (r.map kyOf).Nodup) (k : K3) : getM (ways (r.map flipS)) k = getM (ways r) (flipK k) := by
  have hn : ((r.map flipS).map kyOf).Nodup := by
    rw [List.map_map, show kyOf ∘ flipS = flipK ∘ kyOf from rfl, ← List.map_map]
    exact (List.pairwise_map.mpr (h.imp fun hne e => hne (flipK_inj e)))
  have key : ∀ v, getM (ways (r.map flipS)) k = some v ↔ getM (ways r) (flipK k) = some v := fun v => by
    rw [way_iff hn, way_iff h]
    constructor
    · rintro ⟨s, hs, e1, e2⟩
      obtain ⟨t, ht, rfl⟩ := List.mem_map.mp hs
      exact ⟨t, ht, by rw [← e1, flipS_key, flipK_two], e2⟩
    · rintro ⟨s, hs, e1, e2⟩
      exact ⟨flipS s, List.mem_map_of_mem hs, by rw [flipS_key, e1, flipK_two], e2⟩
  cases e : getM (ways (r.map flipS)) k with
  | some v => exact ((key v).mp e).symm
  | none =>
    cases e2 : getM (ways r) (flipK k) with
    | none => rfl
    | some v => rw [(key v).mpr e2] at e; cases e
theorem row_mir {p : Plan} (hn : NodK p) : ∀ (ks : List K3) (i : Nat), goRow (mirP p) i ks = goRow p i (ks.map flipK)
  | [], i => rfl
  | k :: ks, i => by
    rw [List.map_cons, goRow_cons, goRow_cons]
    have e : (mirP p)[i]? = (p[i]?).map fun r => r.map flipS := by unfold mirP; rw [List.getElem?_map]
    rw [e]
    cases hr : p[i]? with
    | none => rfl
    | some r =>
      dsimp only [Option.map]
      rw [way_flip (hn r (List.mem_of_getElem? hr))]
      cases getM (ways r) (flipK k) with
      | none => rfl
      | some j => exact row_mir hn ks j.toNat
theorem lang_mir {p : Plan} (hn : NodK p) : lang (mirP p) = mirL (lang p) := funext fun ks => row_mir hn ks 0
theorem good_mir {p : Plan} (h : GoodPlan p) : GoodPlan (mirP p) := by
  refine ⟨by rw [mirP_len]; exact h.1, fun r hr => ?_⟩
  rw [mirP_len]
  obtain ⟨r', hr', rfl⟩ := List.mem_map.mp hr
  obtain ⟨h1, h2, h3⟩ := h.2 r' hr'
  refine ⟨by rw [List.length_map]; exact h1, fun s hs => ?_, ?_⟩
  · obtain ⟨t, ht, rfl⟩ := List.mem_map.mp hs
    obtain ⟨g1, g2, g3, g4⟩ := h2 t ht
    refine ⟨?_, g2, g3, g4⟩
    rcases g1 with g1 | g1
    · right; show flipT t.1 = "?"; rw [g1]; decide
    · left; show flipT t.1 = "!"; rw [g1]; decide
  · rw [List.map_map, show kyOf ∘ flipS = flipK ∘ kyOf from rfl, ← List.map_map]
    exact (List.pairwise_map.mpr (h3.imp fun hne e => hne (flipK_inj e)))
/-! ### the round -/
open Classical in
/-- behind an end it goes on from the beginning -/
noncomputable def rndL (B : Lg) : List K3 → Lg → Bool
  | [], _ => true
  | k :: ks, L => L [k] && rndL B ks (if EndL (der L k) then B else der L k)
noncomputable def rnd (L : Lg) : Lg := fun ks => rndL L ks L
def rndP (p : Plan) : Plan := p.map fun r => r.map (setG fun j => if rm p j = [] then 0 else j)
theorem rndP_len (p : Plan) : (rndP p).length = p.length := by simp [rndP]
theorem row_rnd {p : Plan} (ht : Tgt p) (hn : NodK p) (h0 : p ≠ []) : ∀ (ks : List K3) (i : Nat), i < p.length → goRow (rndP p) i ks = rndL (lang p) ks (goRow p i)
  | [], _, _ => rfl
  | k :: ks, i, hi => by
    have hp0 := List.length_pos_iff.mpr h0
    have hget : (rndP p)[i]? = some (p[i].map (setG fun j => if rm p j = [] then 0 else j)) := by
      unfold rndP; rw [List.getElem?_map]; simp [hi]
    rw [goRow_cons, hget]
    dsimp only
    rw [way_set, rndL, go_one hi]
    cases e : getM (ways p[i]) k with
    | none => rfl
    | some x =>
      obtain ⟨g0, g1⟩ := tgt_way ht hn hi e
      have ed : der (goRow p i) k = goRow p x.toNat := funext fun w => by unfold der; rw [go_way hi, e]
      have hxl : x.toNat < p.length := by omega
      have er : rm p x = p[x.toNat] := by unfold rm; simp [hxl]
      rw [ed]
      simp only [Option.isSome_some, Bool.true_and, Option.map]
      by_cases hx : p[x.toNat] = []
      · rw [if_pos (er.trans hx), if_pos ((end_iff hn hxl).mpr hx)]
        exact row_rnd ht hn h0 ks 0 hp0
      · rw [if_neg (fun z => hx (er.symm.trans z)), if_neg (fun z => hx ((end_iff hn hxl).mp z))]
        exact row_rnd ht hn h0 ks x.toNat hxl
theorem lang_rnd {p : Plan} (ht : Tgt p) (hn : NodK p) (h0 : p ≠ []) : lang (rndP p) = rnd (lang p) := funext fun ks => row_rnd ht hn h0 ks 0 (List.length_pos_iff.mpr h0)
theorem good_rnd {p : Plan} (h : GoodPlan p) (h0 : p ≠ []) : GoodPlan (rndP p) := by
  have hp0 := List.length_pos_iff.mpr h0
  refine ⟨by rw [rndP_len]; exact h.1, fun r hr => ?_⟩
  rw [rndP_len]
  obtain ⟨r', hr', rfl⟩ := List.mem_map.mp hr
  refine good_set (h.2 r' hr') fun j g0 g1 => ?_
  split <;> omega
theorem rnd_one (B L : Lg) (k : K3) : rndL B [k] L = L [k] := by simp [rndL]
/-- the language in a state -/
noncomputable def goL (B L : Lg) : Lg := fun ks => rndL B ks L
theorem goL_end {B L : Lg} : EndL (goL B L) ↔ EndL L := by
  unfold EndL goL
  simp only [rnd_one]
open Classical in
noncomputable def nextL (B L : Lg) (k : K3) : Lg := if EndL (der L k) then B else der L k
theorem rnd_go (B L : Lg) (k : K3) (ks : List K3) : rndL B (k :: ks) L = (L [k] && rndL B ks (nextL B L k)) := rfl
theorem goL_der {B L : Lg} {k : K3} (h : L [k] = true) : der (goL B L) k = goL B (nextL B L k) := funext fun w => by
  unfold der goL
  rw [rnd_go, h, Bool.true_and]
theorem nextL_live {B L : Lg} (hB : ¬ EndL B) (k : K3) : ¬ EndL (nextL B L k) := by
  unfold nextL; split
  · exact hB
  · assumption
theorem rnd_again {B : Lg} (hB : ¬ EndL B) : ∀ (ks : List K3) (L : Lg), rndL (goL B B) ks (goL B L) = rndL B ks L
  | [], _ => rfl
  | k :: ks, L => by
    rw [rnd_go, rnd_go]
    have e1 : goL B L [k] = L [k] := rnd_one B L k
    rw [e1]
    cases h : L [k] with
    | false => rfl
    | true =>
      have hl := nextL_live (L := L) hB k
      have e2 : nextL (goL B B) (goL B L) k = goL B (nextL B L k) := by
        rw [nextL, goL_der h, if_neg (fun z => hl (goL_end.mp z))]
      rw [e2, rnd_again hB ks]
theorem rnd_rnd (L : Lg) : rnd (rnd L) = rnd L := funext fun ks => by
  by_cases h : EndL L
  · cases ks with
    | nil => rfl
    | cons k ks =>
      show rndL (rnd L) (k :: ks) (rnd L) = rndL L (k :: ks) L
      rw [rnd_go, rnd_go, h k]
      have : rnd L [k] = L [k] := rnd_one L L k
      rw [this, h k]; rfl
  · exact rnd_again h ks L
theorem mir_one (L : Lg) (k : K3) : mirL L [k] = L [flipK k] := rfl
theorem mir_der (L : Lg) (k : K3) : der (mirL L) k = mirL (der L (flipK k)) := rfl
theorem mir_end {L : Lg} : EndL (mirL L) ↔ EndL L :=
  ⟨fun h k => by have := h (flipK k); rwa [mir_one, flipK_two] at this, fun h k => by rw [mir_one]; exact h _⟩
theorem mir_next (B L : Lg) (k : K3) : nextL (mirL B) (mirL L) k = mirL (nextL B L (flipK k)) := by
  unfold nextL
  rw [mir_der]
  by_cases h : EndL (der L (flipK k))
  · rw [if_pos (mir_end.mpr h), if_pos h]
  · rw [if_neg (fun z => h (mir_end.mp z)), if_neg h]
theorem mir_rndL (B : Lg) : ∀ (ks : List K3) (L : Lg), rndL (mirL B) ks (mirL L) = rndL B (ks.map flipK) L
  | [], _ => rfl
  | k :: ks, L => by
    rw [List.map_cons, rnd_go, rnd_go, mir_one, mir_next, mir_rndL B ks]
theorem mir_rnd (L : Lg) : rnd (mirL L) = mirL (rnd L) := funext fun ks => mir_rndL L ks L
theorem rnd_nil (L : Lg) : rnd L [] = true := rfl
/-! ### least rooms of these -/
theorem mirP_ne {p : Plan} (h : p ≠ []) : mirP p ≠ [] := fun e => h (List.map_eq_nil_iff.mp e)
theorem rndP_ne {p : Plan} (h : p ≠ []) : rndP p ≠ [] := fun e => h (List.map_eq_nil_iff.mp e)
theorem lst_of {p z : Plan} {L : Lg} (gp : GoodPlan p) (np : p ≠ []) (e : lang p = L) (h : LeastOf p z) : Lst z L ∧ z.length ≤ p.length := by
  have h1 := (h.isLeast gp np).lst
  rw [e] at h1
  exact ⟨h1, (h.good gp np).2.2⟩
theorem lst_is {p z : Plan} {L : Lg} (e : lang p = L) (h : IsLeast p z) : Lst z L := by
  have h1 := h.lst
  rw [e] at h1
  exact h1
theorem Lst.mir {p : Plan} {L : Lg} (h : Lst p L) : GoodPlan (mirP p) ∧ mirP p ≠ [] ∧ lang (mirP p) = mirL L := ⟨good_mir h.good, mirP_ne h.ne, by rw [lang_mir h.good.nodk, h.eq]⟩
theorem Lst.rnd {p : Plan} {L : Lg} (h : Lst p L) : GoodPlan (rndP p) ∧ rndP p ≠ [] ∧ lang (rndP p) = rnd L := ⟨good_rnd h.good h.ne, rndP_ne h.ne, by rw [lang_rnd h.good.tgt h.good.nodk h.ne, h.eq]⟩
end K

namespace K
open PySem L2 DL
local macro_rules | `(tactic| walk_at "dl") => `(tactic| with_reducible first
  | refine es_if ?_ | refine es_append ?_ | refine es_sub ?_ | refine es_par3 ?_ | refine es_parD ?_ | refine es_asg ?_ | refine es_ret ?_ | refine es_retN ?_ | refine es_next ?_ | refine es_drop ?_ | refine es_break ?_ | refine es_cont ?_
  | refine et_val ?_ | refine et_B ?_ | refine et_not ?_ | refine et_and ?_ | refine et_or ?_ | refine et_yes ?_
  | refine ev_op ?_ | refine ev_un ?_ | refine ev_cb ?_ | refine ev_tup ?_ | refine ev_lst ?_ | refine ev_ifx ?_ | refine ev_andV ?_ | refine ev_orV ?_ | refine ev_notV ?_ | refine ev_sl ?_
  | refine ea_cons ?_ | refine ea_nil ?_ | refine ev_int ?_ | refine ev_str ?_ | refine ev_bl ?_ | refine ev_non ?_ | refine eo_none ?_ | refine eo_some ?_
  | refine gts_cons ?_ | refine gts_nil ?_
  | refine o2_addI ?_ | refine o2_ltI ?_ | refine o2_leI ?_ | refine o2_gtI ?_ | refine o2_geI ?_ | refine o2_ltS ?_ | refine o2_leS ?_ | refine o2_gtS ?_ | refine o2_sub ?_
  | refine oa_intI ?_ | refine oa_intB ?_ | refine oa_abs ?_ | refine oa_two ?_ | refine ulen_R ?_ | refine ulen_T ?_ | refine ulen_L LstV.d ?_
  | (refine ⟨_, Pu.d, ?_⟩) | (refine ⟨_, Pu.ptr, ?_⟩) | (refine ⟨_, Pu.fr, ?_⟩))
local macro_rules | `(tactic| walk_at "dv") => `(tactic| first
  | refine ev_var (by rfl) ?_ | refine ev_ptr (.inl (by rfl)) ?_ | refine ev_ptr (.inr (.inl (by rfl))) ?_ | refine ev_ptr (.inr (.inr (by rfl))) ?_
  | refine uix_L (LstV.o ⟨0, .inr (by rfl)⟩) (by rfl) ?_ | refine uix_L LstV.d (by rfl) ?_ | refine uix_T (by rfl) ?_
  | refine gt_tup (by rfl) ?_ | refine gt_name (by first | exact all_in | simp) ?_ | refine ⟨_, rfl, ?_⟩)
local macro_rules | `(tactic| walk_at "e") => `(tactic| repeat (first | walk_at "dl" | walk_at "dv"))
local macro_rules | `(tactic| walk_at "d") => `(tactic| repeat (first | with_reducible refine es_seq ?_ | walk_at "dl" | walk_at "dv"))
section
variable {P : Program} {w : World} {K : PySem.W.Frag} {mg : Str → Option Value} {base : Heap}
/-- the signs as the top has written them -/
structure MirD (K : PySem.W.Frag) (w : World) (p : Addr) : Prop where
  a : KDct K w p "!" (.str "?")
  b : KDct K w p "?" (.str "!")
theorem MirD.at {p : Addr} (h : MirD K w p) {x : Str} (hx : x = "!" ∨ x = "?") : KDct K w p x (.str (flipT x)) := by
  rcases hx with e | e
  · subst e; exact h.a
  · subst e; exact h.b
abbrev s_Service___invert__ : Stmt := inClass (topS 20) 7
abbrev N_Service___invert__ : List Str := ["self", "steps", "sign", "line", "word", "room"]
theorem sc_Service___invert__ : FnScope N_Service___invert__ ["self"] (defScope s_Service___invert__) := ⟨rfl, rfl, rfl, by decide +kernel, rfl, by decide +kernel, by decide +kernel⟩

def SMir (C : Addr) : List T → (RT → Prop) → Prop := fun ts P => ∃ p : Plan, GoodPlan p ∧ p ≠ [] ∧ ts = [objS C p] ∧ ∀ z, LeastOf (mirP p) z → P (.d (objS C z))
theorem ok_invert {f C fi pm : Addr} {fd : FuncData} (Fn : Fun K "__invert__" "Service.__invert__" s_Service___invert__ f fd) (TX : TXF mg) (CL_Service : Cls K C) (hR : NoAttr K C "_rooms") (MK_Service : Mk K C fi) (MK_Service_mg : mg "Service" = some (.ref C)) (C_Service___init__ : CalM P w K mg base 4 fi ["self", "rooms"] (spM ⟨P, w, K⟩ (SInit C)))
    (G_MIRRORED : mg "MIRRORED" = some (.ref pm) ∧ RelV (.ref pm) (.ref pm)) (D : MirD K w pm) : FnOk P w K mg base CX0 6 f fd ["self"] (spP ⟨P, w, K⟩ (SMir C)) := by
  refine Fn.ok sc_Service___invert__ (fun vs H Q E h => ?_) (fun cdv A outer s H vs Q E hr h => ?_)
  · obtain ⟨F, ts, _, hd, P, ⟨_, _, _, rfl, _⟩, _⟩ := h
    rw [hd.length]; rfl
  · obtain ⟨F, ts, fh, hd, PP, ⟨p, hgp, hp0, rfl, hk⟩, q⟩ := h
    have hu := hr.units
    refine ⟨_, (pss_one (ps_ret (pe_make MK_Service C_Service___init__.ok (hr.mono (by decide)) (by rfl) MK_Service_mg C_Service___init__.bd .nil pass0 (pa_cons (pe_lc (own := [("steps", 1)]) (by rfl) sc_Service___invert__.nd (pi_listB ⟨P, w, K⟩ rfl (pe_fldB ⟨P, w, K⟩ rfl (pv 0) (by rfl))) (blkOk_by (N := N_Service___invert__) (sc := defScope s_Service___invert__) (by decide +kernel)) (fun _ _ _ _ _ => (pg_name (i := 1) sc_Service___invert__.nd rfl (Or.inl rfl))) (fun _ _ _ _ _ => pts_nil) (fun _ _ _ _ _ => (pe_lc (own := [("sign", 2), ("line", 3), ("word", 4), ("room", 5)]) (by rfl) sc_Service___invert__.nd (pi_listB ⟨P, w, K⟩ rfl (pv 1)) (blkOk_by (N := N_Service___invert__) (sc := _) (by rfl)) (fun _ _ _ _ _ => (pg_tupB ⟨P, w, K⟩ rfl 4 rfl (pgs_cons (pg_name (i := 2) sc_Service___invert__.nd rfl (Or.inl rfl)) (pgs_cons (pg_name (i := 3) sc_Service___invert__.nd rfl (Or.inl rfl)) (pgs_cons (pg_name (i := 4) sc_Service___invert__.nd rfl (Or.inl rfl)) (pgs_cons (pg_name (i := 5) sc_Service___invert__.nd rfl (Or.inl rfl)) pgs_nil)))))) (fun _ _ _ _ _ => pts_nil) (fun _ _ _ _ _ => (pe_tup (pa_cons (pe_ix (ix_kdB ⟨P, w, K⟩ rfl) (pe_glob (by rfl) G_MIRRORED.1 G_MIRRORED.2) (pv 2) (fun _ _ => rfl)) (pa_cons (pv 3) (pa_cons (pv 4) (pa_cons (pv 5) pa_nil))))))))) pa_nil)))), ?_⟩
    refine run_P (n := 5) fh hd rfl q ?_
    dsimp only [cxOf]
    refine es_ret (ev_make (ea_cons (ev_lcI (ei_L ?_))))
    refine ev_fld (ns := ["_rooms"]) (us := [ePlan p]) (t := ePlan p) CL_Service hR ?_
    refine ev_var (by rfl) ⟨rfl, rfl, ?_⟩
    refine ⟨_, Pu.d, by rw [List.length_map]; exact Nat.le_of_lt hgp.1, fun i acc δ => acc = (mirP (p.take i)).map eRoom ∧ δ = [.d (objS C p), .no, .no, .no, .no, .no], ⟨by simp [mirP], rfl⟩, fun _ _ _ _ => trivial, ?_, ?_⟩
    · rintro i t acc δ hti _ ⟨rfl, rfl⟩
      rw [List.getElem?_map] at hti
      obtain ⟨r, hr', rfl⟩ := Option.map_eq_some_iff.mp hti
      have hgr := hgp.2 r (List.mem_of_getElem? hr')
      walk_at "d"
      refine ite2 (fun _ => ?_) (fun h => nomatch h)
      refine ev_lcI (ei_L ?_)
      walk_at "d"
      refine ⟨by rw [List.length_map]; exact Nat.le_of_lt hgr.1, fun j acc δ => acc = ((r.take j).map flipS).map eS ∧ δ = [.d (objS C p), .d (eRoom r), .no, .no, .no, .no], ⟨by simp, rfl⟩, fun _ _ _ _ => trivial, ?_, ?_⟩
      · rintro j t acc δ htj _ ⟨rfl, rfl⟩
        rw [List.getElem?_map] at htj
        obtain ⟨st, hs', rfl⟩ := Option.map_eq_some_iff.mp htj
        have hsg := (hgr.2.1 st (List.mem_of_getElem? hs')).1
        obtain ⟨s1, s2, s3, s4⟩ := st
        have hsg : s1 = "!" ∨ s1 = "?" := hsg
        walk_at "d"
        refine ite2 (fun _ => ?_) (fun h => nomatch h)
        walk_at "d"
        refine ev_k (t := .raw (.ref pm)) (fun F => by simp only [DV]) ⟨_, Pu.d, ?_⟩
        walk_at "d"
        refine o2_kd (t := .str (flipT s1)) (D.at hsg) rfl ⟨_, Pu.d, ?_⟩
        walk_at "d"
        refine ⟨[.str (flipT s1), .str s2, .str s3, .int s4], rfl, (show 4 ≤ sizeLine by decide), _, Pu.d, ?_, rfl⟩
        rw [List.take_add_one, hs']; simp [flipS, eS]
      · rintro acc δ _ ⟨rfl, rfl⟩ p1
        refine ⟨_, Pu.fr, ?_, rfl⟩
        rw [List.length_map, List.take_length, List.take_add_one, hr']; simp [mirP, eRoom]
    · rintro acc δ _ ⟨rfl, rfl⟩ p1
      rw [List.length_map, List.take_length]
      refine ⟨_, Pu.fr, ea_nil ?_⟩
      exact ⟨[ePlan (mirP p)], rfl, fun dx => ⟨fun o r => r = .d .non ∧ ∃ z, LeastOf (mirP p) z ∧ o = .ins C dx ["_rooms"] [ePlan z], ⟨dx, mirP p, rfl, good_mir hgp, mirP_ne hp0, rfl, fun z hz => ⟨rfl, z, hz, rfl⟩⟩, fun o r ⟨e1, z, hz, e2⟩ => ⟨_, _, e2, e1, hk z hz⟩⟩⟩
abbrev s_Service_again : Stmt := inClass (topS 20) 8
abbrev N_Service_again : List Str := ["self", "steps", "sign", "line", "word", "room"]
theorem sc_Service_again : FnScope N_Service_again ["self"] (defScope s_Service_again) := ⟨rfl, rfl, rfl, by decide +kernel, rfl, by decide +kernel, by decide +kernel⟩

def SAgain (C : Addr) : List T → (RT → Prop) → Prop := fun ts P => ∃ p : Plan, GoodPlan p ∧ p ≠ [] ∧ ts = [objS C p] ∧ ∀ z, LeastOf (rndP p) z → P (.d (objS C z))
theorem ok_again {f C fi : Addr} {fd : FuncData} (Fn : Fun K "again" "Service.again" s_Service_again f fd) (TX : TXF mg) (CL_Service : Cls K C) (hR : NoAttr K C "_rooms") (MK_Service : Mk K C fi) (MK_Service_mg : mg "Service" = some (.ref C)) (C_Service___init__ : CalM P w K mg base 4 fi ["self", "rooms"] (spM ⟨P, w, K⟩ (SInit C))) : FnOk P w K mg base CX0 6 f fd ["self"] (spP ⟨P, w, K⟩ (SAgain C)) := by
  refine Fn.ok sc_Service_again (fun vs H Q E h => ?_) (fun cdv A outer s H vs Q E hr h => ?_)
  · obtain ⟨F, ts, _, hd, P, ⟨_, _, _, rfl, _⟩, _⟩ := h
    rw [hd.length]; rfl
  · obtain ⟨F, ts, fh, hd, PP, ⟨p, hgp, hp0, rfl, hk⟩, q⟩ := h
    have hu := hr.units
    refine ⟨_, (pss_one (ps_ret (pe_make MK_Service C_Service___init__.ok (hr.mono (by decide)) (by rfl) MK_Service_mg C_Service___init__.bd .nil pass0 (pa_cons (pe_lc (own := [("steps", 1)]) (by rfl) sc_Service_again.nd (pi_listB ⟨P, w, K⟩ rfl (pe_fldB ⟨P, w, K⟩ rfl (pv 0) (by rfl))) (blkOk_by (N := N_Service_again) (sc := defScope s_Service_again) (by decide +kernel)) (fun _ _ _ _ _ => (pg_name (i := 1) sc_Service_again.nd rfl (Or.inl rfl))) (fun _ _ _ _ _ => pts_nil) (fun _ _ _ _ _ => (pe_lc (own := [("sign", 2), ("line", 3), ("word", 4), ("room", 5)]) (by rfl) sc_Service_again.nd (pi_listB ⟨P, w, K⟩ rfl (pv 1)) (blkOk_by (N := N_Service_again) (sc := _) (by rfl)) (fun _ _ _ _ _ => (pg_tupB ⟨P, w, K⟩ rfl 4 rfl (pgs_cons (pg_name (i := 2) sc_Service_again.nd rfl (Or.inl rfl)) (pgs_cons (pg_name (i := 3) sc_Service_again.nd rfl (Or.inl rfl)) (pgs_cons (pg_name (i := 4) sc_Service_again.nd rfl (Or.inl rfl)) (pgs_cons (pg_name (i := 5) sc_Service_again.nd rfl (Or.inl rfl)) pgs_nil)))))) (fun _ _ _ _ _ => pts_nil) (fun _ _ _ _ _ => (pe_tup (pa_cons (pv 2) (pa_cons (pv 3) (pa_cons (pv 4) (pa_cons (pe_ifExp (pt_truthB ⟨P, w, K⟩ rfl (pe_ix (ix_B ⟨P, w, K⟩ rfl hu) (pe_fldB ⟨P, w, K⟩ rfl (pv 0) (by rfl)) (pv 5) (fun _ _ => rfl)) (by intro _; rfl)) (pv 5) pe_int) pa_nil))))))))) pa_nil)))), ?_⟩
    refine run_P (n := 5) fh hd rfl q ?_
    dsimp only [cxOf]
    refine es_ret (ev_make (ea_cons (ev_lcI (ei_L ?_))))
    refine ev_fld (ns := ["_rooms"]) (us := [ePlan p]) (t := ePlan p) CL_Service hR ?_
    refine ev_var (by rfl) ⟨rfl, rfl, ?_⟩
    refine ⟨_, Pu.d, by rw [List.length_map]; exact Nat.le_of_lt hgp.1, fun i acc δ => acc = ((p.take i).map fun r => r.map (setG fun j => if rm p j = [] then 0 else j)).map eRoom ∧ δ = [.d (objS C p), .no, .no, .no, .no, .no], ⟨by simp, rfl⟩, fun _ _ _ _ => trivial, ?_, ?_⟩
    · rintro i t acc δ hti _ ⟨rfl, rfl⟩
      rw [List.getElem?_map] at hti
      obtain ⟨r, hr', rfl⟩ := Option.map_eq_some_iff.mp hti
      have hgr := hgp.2 r (List.mem_of_getElem? hr')
      walk_at "d"
      refine ite2 (fun _ => ?_) (fun h => nomatch h)
      refine ev_lcI (ei_L ?_)
      walk_at "d"
      refine ⟨by rw [List.length_map]; exact Nat.le_of_lt hgr.1, fun u acc δ => acc = ((r.take u).map (setG fun j => if rm p j = [] then 0 else j)).map eS ∧ δ = [.d (objS C p), .d (eRoom r), .no, .no, .no, .no], ⟨by simp, rfl⟩, fun _ _ _ _ => trivial, ?_, ?_⟩
      · rintro u t acc δ htj _ ⟨rfl, rfl⟩
        rw [List.getElem?_map] at htj
        obtain ⟨st, hs', rfl⟩ := Option.map_eq_some_iff.mp htj
        have hgs := (hgr.2.1 st (List.mem_of_getElem? hs')).2.2.2
        obtain ⟨s1, s2, s3, s4⟩ := st
        have hgs : 0 ≤ s4 ∧ s4 < p.length := hgs
        walk_at "d"
        refine ite2 (fun _ => ?_) (fun h => nomatch h)
        walk_at "d"
        refine et_truth (ev_op ?_)
        refine ev_fld (ns := ["_rooms"]) (us := [ePlan p]) (t := ePlan p) CL_Service hR ?_
        refine ev_var (by rfl) ⟨rfl, rfl, ?_⟩
        walk_at "d"
        refine uix_L LstV.d (rm_at hgs.1 hgs.2) ⟨_, Pu.d, _, .lst LstV.d, ?_⟩
        have hnx : ∀ g : Int, (if rm p s4 = [] then (0 : Int) else s4) = g → (((r.take u).map (setG fun j => if rm p j = [] then 0 else j)).map eS ++ [T.tup [.str s1, .str s2, .str s3, .int g]]) = ((r.take (u + 1)).map (setG fun j => if rm p j = [] then 0 else j)).map eS := fun g e => by
          rw [List.take_add_one, hs']; simp [setG, eS, goalOf]; exact e.symm
        by_cases he : rm p s4 = []
        · have : (!((rm p s4).map eS).isEmpty) = false := by rw [he]; rfl
          rw [this]
          refine ite2 (fun h => nomatch h) (fun _ => ?_)
          walk_at "d"
          refine ⟨[.str s1, .str s2, .str s3, .int 0], rfl, (show 4 ≤ sizeLine by decide), _, Pu.d, ?_, rfl⟩
          exact hnx 0 (if_pos he)
        · have : (!((rm p s4).map eS).isEmpty) = true := by
            cases e : rm p s4 with
            | nil => exact absurd e he
            | cons a b => rfl
          rw [this]
          refine ite2 (fun _ => ?_) (fun h => absurd rfl h)
          walk_at "d"
          refine ⟨[.str s1, .str s2, .str s3, .int s4], rfl, (show 4 ≤ sizeLine by decide), _, Pu.d, ?_, rfl⟩
          exact hnx s4 (if_neg he)
      · rintro acc δ _ ⟨rfl, rfl⟩ p1
        refine ⟨_, Pu.fr, ?_, rfl⟩
        rw [List.length_map, List.take_length, List.take_add_one, hr']; simp [eRoom]
    · rintro acc δ _ ⟨rfl, rfl⟩ p1
      rw [List.length_map, List.take_length]
      refine ⟨_, Pu.fr, ea_nil ?_⟩
      exact ⟨[ePlan (rndP p)], rfl, fun dx => ⟨fun o r => r = .d .non ∧ ∃ z, LeastOf (rndP p) z ∧ o = .ins C dx ["_rooms"] [ePlan z], ⟨dx, rndP p, rfl, good_rnd hgp hp0, rndP_ne hp0, rfl, fun z hz => ⟨rfl, z, hz, rfl⟩⟩, fun o r ⟨e1, z, hz, e2⟩ => ⟨_, _, e2, e1, hk z hz⟩⟩⟩
end
end K

namespace K
open PySem L2 DL
local macro_rules | `(tactic| walk_at "dl") => `(tactic| with_reducible first
  | refine es_if ?_ | refine es_append ?_ | refine es_sub ?_ | refine es_par3 ?_ | refine es_parD ?_ | refine es_asg ?_ | refine es_ret ?_ | refine es_retN ?_ | refine es_next ?_ | refine es_drop ?_ | refine es_break ?_ | refine es_cont ?_
  | refine et_val ?_ | refine et_B ?_ | refine et_not ?_ | refine et_and ?_ | refine et_or ?_ | refine et_yes ?_
  | refine ev_op ?_ | refine ev_un ?_ | refine ev_cb ?_ | refine ev_tup ?_ | refine ev_lst ?_ | refine ev_ifx ?_ | refine ev_andV ?_ | refine ev_orV ?_ | refine ev_notV ?_ | refine ev_sl ?_
  | refine ea_cons ?_ | refine ea_nil ?_ | refine ev_int ?_ | refine ev_str ?_ | refine ev_bl ?_ | refine ev_non ?_ | refine eo_none ?_ | refine eo_some ?_
  | refine gts_cons ?_ | refine gts_nil ?_
  | refine o2_addI ?_ | refine o2_ltI ?_ | refine o2_leI ?_ | refine o2_gtI ?_ | refine o2_geI ?_ | refine o2_ltS ?_ | refine o2_leS ?_ | refine o2_gtS ?_ | refine o2_sub ?_
  | refine oa_intI ?_ | refine oa_intB ?_ | refine oa_abs ?_ | refine oa_two ?_ | refine ulen_R ?_ | refine ulen_T ?_ | refine ulen_L LstV.d ?_
  | (refine ⟨_, Pu.d, ?_⟩) | (refine ⟨_, Pu.ptr, ?_⟩) | (refine ⟨_, Pu.fr, ?_⟩))
local macro_rules | `(tactic| walk_at "dv") => `(tactic| first
  | refine ev_var (by rfl) ?_ | refine ev_ptr (.inl (by rfl)) ?_ | refine ev_ptr (.inr (.inl (by rfl))) ?_ | refine ev_ptr (.inr (.inr (by rfl))) ?_
  | refine uix_L (LstV.o ⟨0, .inr (by rfl)⟩) (by rfl) ?_ | refine uix_L LstV.d (by rfl) ?_ | refine uix_T (by rfl) ?_
  | refine gt_tup (by rfl) ?_ | refine gt_name (by first | exact all_in | simp) ?_ | refine ⟨_, rfl, ?_⟩)
local macro_rules | `(tactic| walk_at "e") => `(tactic| repeat (first | walk_at "dl" | walk_at "dv"))
local macro_rules | `(tactic| walk_at "d") => `(tactic| repeat (first | with_reducible refine es_seq ?_ | walk_at "dl" | walk_at "dv"))
section
variable {P : Program} {w : World} {K : PySem.W.Frag} {mg : Str → Option Value} {base : Heap}
def behF (p : Plan) (j : Int) : Int := if rm p j = [] then (p.length : Int) else j
def SBeh : List T → (RT → Prop) → Prop := fun ts P => ∃ p q : Plan, GoodPlan p ∧ GoodPlan q ∧ p ≠ [] ∧ q ≠ [] ∧ p.length + q.length < sizeLine ∧ ts = [ePlan p, ePlan q] ∧ ∀ r, (r = .d (ePlan (lawBeh p q)) ∨ r = .new (.lst ((lawBeh p q).map eRoom))) → P r
end
end K

namespace K
open PySem L2 DL
local macro_rules | `(tactic| walk_at "dl") => `(tactic| with_reducible first
  | refine es_if ?_ | refine es_append ?_ | refine es_sub ?_ | refine es_par3 ?_ | refine es_parD ?_ | refine es_asg ?_ | refine es_ret ?_ | refine es_retN ?_ | refine es_next ?_ | refine es_drop ?_ | refine es_break ?_ | refine es_cont ?_
  | refine et_val ?_ | refine et_B ?_ | refine et_not ?_ | refine et_and ?_ | refine et_or ?_ | refine et_yes ?_
  | refine ev_op ?_ | refine ev_un ?_ | refine ev_cb ?_ | refine ev_tup ?_ | refine ev_lst ?_ | refine ev_ifx ?_ | refine ev_andV ?_ | refine ev_orV ?_ | refine ev_notV ?_ | refine ev_sl ?_
  | refine ea_cons ?_ | refine ea_nil ?_ | refine ev_int ?_ | refine ev_str ?_ | refine ev_bl ?_ | refine ev_non ?_ | refine eo_none ?_ | refine eo_some ?_
  | refine gts_cons ?_ | refine gts_nil ?_
  | refine o2_addI ?_ | refine o2_ltI ?_ | refine o2_leI ?_ | refine o2_gtI ?_ | refine o2_geI ?_ | refine o2_ltS ?_ | refine o2_leS ?_ | refine o2_gtS ?_ | refine o2_sub ?_
  | refine oa_intI ?_ | refine oa_intB ?_ | refine oa_abs ?_ | refine oa_two ?_ | refine ulen_R ?_ | refine ulen_T ?_ | refine ulen_L LstV.d ?_
  | (refine ⟨_, Pu.d, ?_⟩) | (refine ⟨_, Pu.ptr, ?_⟩) | (refine ⟨_, Pu.fr, ?_⟩))
local macro_rules | `(tactic| walk_at "dv") => `(tactic| first
  | refine ev_var (by rfl) ?_ | refine ev_ptr (.inl (by rfl)) ?_ | refine ev_ptr (.inr (.inl (by rfl))) ?_ | refine ev_ptr (.inr (.inr (by rfl))) ?_
  | refine uix_L (LstV.o ⟨0, .inr (by rfl)⟩) (by rfl) ?_ | refine uix_L LstV.d (by rfl) ?_ | refine uix_T (by rfl) ?_
  | refine gt_tup (by rfl) ?_ | refine gt_name (by first | exact all_in | simp) ?_ | refine ⟨_, rfl, ?_⟩)
local macro_rules | `(tactic| walk_at "e") => `(tactic| repeat (first | walk_at "dl" | walk_at "dv"))
local macro_rules | `(tactic| walk_at "d") => `(tactic| repeat (first | with_reducible refine es_seq ?_ | walk_at "dl" | walk_at "dv"))
section
variable {P : Program} {w : World} {K : PySem.W.Frag} {mg : Str → Option Value} {base : Heap}
theorem good_none : GoodPlan [[]] := ⟨by decide, fun r hr => by
  rw [List.mem_singleton] at hr; subst hr
  exact ⟨by decide, (fun _ h => nomatch h), List.nodup_nil⟩⟩
theorem good_one {a b d : Str} (h1 : a = "!" ∨ a = "?") (h2 : IsName b) (h3 : IsName d) : GoodPlan [[(a, b, d, 1)], []] := ⟨(show 2 < sizeLine by decide), fun r hr => by
  rcases List.mem_cons.mp hr with e | hr
  · subst e
    refine ⟨(show 1 < sizeLine by decide), fun s hs => ?_, by simp⟩
    rw [List.mem_singleton] at hs; subst hs
    exact ⟨h1, h2, h3, (show (0 : Int) ≤ 1 by decide), (show (1 : Int) < 2 by decide)⟩
  · rw [List.mem_singleton] at hr; subst hr
    exact ⟨by decide, (fun _ h => nomatch h), List.nodup_nil⟩⟩
def SSmall : OW → List T → (OW → RT → Prop) → Prop := fun us ts P => ∃ (n most : Nat) (lines words : List Str), n + 3100 < 100000 ∧ Mint n us ∧ 2 ≤ most ∧ most ≤ 100 ∧ lines ≠ [] ∧ words ≠ [] ∧ lines.length ≤ 100 ∧ words.length ≤ 100 ∧ (∀ x ∈ lines, IsName x) ∧ (∀ x ∈ words, IsName x) ∧
  ts = [.int most, .lst (lines.map .str), .lst (words.map .str)] ∧ ∀ us' (p : Plan), Mint (n + 4 + 20 * most) us' → GoodPlan p → p ≠ [] → p.length ≤ most → (∀ r ∈ p, r.length ≤ 3) → P us' (.new (.lst (p.map eRoom)))
end
end K

namespace K
open PySem L2 DL
local macro_rules | `(tactic| walk_at "dl") => `(tactic| with_reducible first
  | refine es_if ?_ | refine es_append ?_ | refine es_sub ?_ | refine es_par3 ?_ | refine es_parD ?_ | refine es_asg ?_ | refine es_ret ?_ | refine es_retN ?_ | refine es_next ?_ | refine es_drop ?_ | refine es_break ?_ | refine es_cont ?_
  | refine et_val ?_ | refine et_B ?_ | refine et_not ?_ | refine et_and ?_ | refine et_or ?_ | refine et_yes ?_
  | refine ev_op ?_ | refine ev_un ?_ | refine ev_cb ?_ | refine ev_tup ?_ | refine ev_lst ?_ | refine ev_ifx ?_ | refine ev_andV ?_ | refine ev_orV ?_ | refine ev_notV ?_ | refine ev_sl ?_
  | refine ea_cons ?_ | refine ea_nil ?_ | refine ev_int ?_ | refine ev_str ?_ | refine ev_bl ?_ | refine ev_non ?_ | refine eo_none ?_ | refine eo_some ?_
  | refine gts_cons ?_ | refine gts_nil ?_
  | refine o2_addI ?_ | refine o2_ltI ?_ | refine o2_leI ?_ | refine o2_gtI ?_ | refine o2_geI ?_ | refine o2_ltS ?_ | refine o2_leS ?_ | refine o2_gtS ?_ | refine o2_sub ?_
  | refine oa_intI ?_ | refine oa_intB ?_ | refine oa_abs ?_ | refine oa_two ?_ | refine ulen_R ?_ | refine ulen_T ?_ | refine ulen_L LstV.d ?_
  | (refine ⟨_, Pu.d, ?_⟩) | (refine ⟨_, Pu.ptr, ?_⟩) | (refine ⟨_, Pu.fr, ?_⟩))
local macro_rules | `(tactic| walk_at "dv") => `(tactic| first
  | refine ev_var (by rfl) ?_ | refine ev_ptr (.inl (by rfl)) ?_ | refine ev_ptr (.inr (.inl (by rfl))) ?_ | refine ev_ptr (.inr (.inr (by rfl))) ?_
  | refine uix_L (LstV.o ⟨0, .inr (by rfl)⟩) (by rfl) ?_ | refine uix_L LstV.d (by rfl) ?_ | refine uix_T (by rfl) ?_
  | refine gt_tup (by rfl) ?_ | refine gt_name (by first | exact all_in | simp) ?_ | refine ⟨_, rfl, ?_⟩)
local macro_rules | `(tactic| walk_at "e") => `(tactic| repeat (first | walk_at "dl" | walk_at "dv"))
local macro_rules | `(tactic| walk_at "d") => `(tactic| repeat (first | with_reducible refine es_seq ?_ | walk_at "dl" | walk_at "dv"))
section
variable {P : Program} {w : World} {K : PySem.W.Frag} {mg : Str → Option Value} {base : Heap}
theorem strSh {x : Str} (h : okT x) : SeqAt.shaped (.str x) = true := shaped_of (show PyData.canLay0 (.str x) = true from h) (by simp [PyData.depth])
theorem lstS_py (xs : List Str) : (T.lst (xs.map .str)).py = some (.list (xs.map .str)) := by simp [T.py, pys_map (e := T.str) (d := PyData.str) (fun _ => rfl)]
theorem lstS_shaped {xs : List Str} (h : ∀ x ∈ xs, okT x) : SeqAt.shaped (.list (xs.map .str)) = true := by
  refine shaped_of ?_ ?_
  · rw [PyData.canLay0]; exact all_lay fun s hs => (show PyData.canLay0 (.str s) = true from h s hs)
  · rw [PyData.depth]
    have := all_depth (d := PyData.str) (n := 0) (xs := xs) fun x _ => by simp [PyData.depth]
    omega
theorem lstS_eqv (a b : List Str) : PyData.eqv (.list (a.map .str)) (.list (b.map .str)) = decide (a = b) := by
  rw [PyData.eqv]; exact eqvAll_map (fun x y => by simp only [PyData.eqv]; exact beq_str x y) a b
def SLawMir : List T → (RT → Prop) → Prop := fun ts P => ∃ p : Plan, GoodPlan p ∧ ts = [ePlan p] ∧ P (.new (.lst ((mirP p).map eRoom)))
end
end K

namespace K
open PySem L2 DL
local macro_rules | `(tactic| walk_at "dl") => `(tactic| with_reducible first
  | refine es_if ?_ | refine es_append ?_ | refine es_sub ?_ | refine es_par3 ?_ | refine es_parD ?_ | refine es_asg ?_ | refine es_ret ?_ | refine es_retN ?_ | refine es_next ?_ | refine es_drop ?_ | refine es_break ?_ | refine es_cont ?_
  | refine et_val ?_ | refine et_B ?_ | refine et_not ?_ | refine et_and ?_ | refine et_or ?_ | refine et_yes ?_
  | refine ev_op ?_ | refine ev_un ?_ | refine ev_cb ?_ | refine ev_tup ?_ | refine ev_lst ?_ | refine ev_ifx ?_ | refine ev_andV ?_ | refine ev_orV ?_ | refine ev_notV ?_ | refine ev_sl ?_
  | refine ea_cons ?_ | refine ea_nil ?_ | refine ev_int ?_ | refine ev_str ?_ | refine ev_bl ?_ | refine ev_non ?_ | refine eo_none ?_ | refine eo_some ?_
  | refine gts_cons ?_ | refine gts_nil ?_
  | refine o2_addI ?_ | refine o2_ltI ?_ | refine o2_leI ?_ | refine o2_gtI ?_ | refine o2_geI ?_ | refine o2_ltS ?_ | refine o2_leS ?_ | refine o2_gtS ?_ | refine o2_sub ?_
  | refine oa_intI ?_ | refine oa_intB ?_ | refine oa_abs ?_ | refine oa_two ?_ | refine ulen_R ?_ | refine ulen_T ?_ | refine ulen_L LstV.d ?_
  | (refine ⟨_, Pu.d, ?_⟩) | (refine ⟨_, Pu.ptr, ?_⟩) | (refine ⟨_, Pu.fr, ?_⟩))
local macro_rules | `(tactic| walk_at "dv") => `(tactic| first
  | refine ev_var (by rfl) ?_ | refine ev_ptr (.inl (by rfl)) ?_ | refine ev_ptr (.inr (.inl (by rfl))) ?_ | refine ev_ptr (.inr (.inr (by rfl))) ?_
  | refine uix_L (LstV.o ⟨0, .inr (by rfl)⟩) (by rfl) ?_ | refine uix_L LstV.d (by rfl) ?_ | refine uix_T (by rfl) ?_
  | refine gt_tup (by rfl) ?_ | refine gt_name (by first | exact all_in | simp) ?_ | refine ⟨_, rfl, ?_⟩)
local macro_rules | `(tactic| walk_at "e") => `(tactic| repeat (first | walk_at "dl" | walk_at "dv"))
local macro_rules | `(tactic| walk_at "d") => `(tactic| repeat (first | with_reducible refine es_seq ?_ | walk_at "dl" | walk_at "dv"))
section
variable {P : Program} {w : World} {K : PySem.W.Frag} {mg : Str → Option Value} {base : Heap}
def rndF (p : Plan) (j : Int) : Int := if rm p j = [] then 0 else j
def rndI (p : Plan) (i : Nat) : Plan := (p.take i).map fun r => r.map (setG (rndF p))
theorem rndI_len (p : Plan) (i : Nat) : (rndI p i).length = (p.take i).length := by simp [rndI]
theorem rndI_all (p : Plan) : rndI p p.length = rndP p := by unfold rndI rndP; rw [List.take_length]; rfl
def SLawRnd : List T → (RT → Prop) → Prop := fun ts P => ∃ p : Plan, GoodPlan p ∧ ts = [ePlan p] ∧ P (.new (.lst ((rndP p).map eRoom)))
end
end K

namespace K
open PySem L2 DL PyProof.Rows
/-! ### a choice of both -/
theorem row_at {Z q : Plan} {n : Nat} (hZ : ∀ j (h : j < q.length), Z[n + j]? = some (q[j].map (setG fun x => x + n))) (ht : Tgt q) (hn : NodK q) : ∀ (ks : List K3) (j : Nat), j < q.length → goRow Z (n + j) ks = goRow q j ks
  | [], _, _ => rfl
  | k :: ks, j, hj => by
    rw [goRow_cons, hZ j hj, go_way hj]
    dsimp only
    rw [way_set]
    cases e : getM (ways q[j]) k with
    | none => rfl
    | some x =>
      obtain ⟨h0, h1⟩ := tgt_way ht hn hj e
      have ex : (x + (n : Int)).toNat = n + x.toNat := by omega
      dsimp only [Option.map]
      rw [ex]
      exact row_at hZ ht hn ks x.toNat (by omega)
theorem way_app {A B : Room} (h : ((A ++ B).map kyOf).Nodup) (k : K3) : getM (ways (A ++ B)) k = (getM (ways A) k).or (getM (ways B) k) := by
  have h2 := h
  rw [List.map_append, List.nodup_append] at h2
  obtain ⟨ha, hb, hd⟩ := h2
  cases e : getM (ways A) k with
  | some v =>
    obtain ⟨s, hs, e1, e2⟩ := (way_iff ha k v).mp e
    exact (way_iff h k v).mpr ⟨s, List.mem_append_left _ hs, e1, e2⟩
  | none =>
    show getM (ways (A ++ B)) k = getM (ways B) k
    cases e3 : getM (ways (A ++ B)) k with
    | some v =>
      obtain ⟨s, hs, e1, e2⟩ := (way_iff h k v).mp e3
      rcases List.mem_append.mp hs with hs | hs
      · rw [(way_iff ha k v).mpr ⟨s, hs, e1, e2⟩] at e; cases e
      · exact ((way_iff hb k v).mpr ⟨s, hs, e1, e2⟩).symm
    | none =>
      cases e4 : getM (ways B) k with
      | none => rfl
      | some v =>
        obtain ⟨s, hs, e1, e2⟩ := (way_iff hb k v).mp e4
        rw [(way_iff h k v).mpr ⟨s, List.mem_append_right _ hs, e1, e2⟩] at e3; cases e3
/-- the rooms of both behind a new first one -/
def orP (p q : Plan) : Plan := (rm (shift 1 p) 0 ++ rm (shift (1 + p.length) q) 0) :: (shift 1 p ++ shift (1 + p.length) q)
theorem orP_len (p q : Plan) : (orP p q).length = 1 + p.length + q.length := by simp [orP, shift]; omega
/-- no first step in common -/
def Apart (p q : Plan) : Prop := ((rm p 0).map kyOf ++ (rm q 0).map kyOf).Nodup
def orL (L M : Lg) : Lg := fun ks => L ks || M ks
theorem set_keys (f : Int → Int) (r : Room) : (r.map (setG f)).map kyOf = r.map kyOf := by rw [List.map_map]; rfl
theorem lang_or {p q : Plan} (htp : Tgt p) (hnp : NodK p) (htq : Tgt q) (hnq : NodK q) (hp0 : p ≠ []) (hq0 : q ≠ []) (ha : Apart p q) : lang (orP p q) = orL (lang p) (lang q) := by
  have lp := List.length_pos_iff.mpr hp0
  have lq := List.length_pos_iff.mpr hq0
  have g1 : ∀ j (h : j < p.length), (orP p q)[1 + j]? = some (p[j].map (setG fun x => x + (1 : Nat))) := fun j h => by
    unfold orP
    rw [show 1 + j = j + 1 by omega, List.getElem?_cons_succ, List.getElem?_append_left (by rw [shift_len]; exact h)]
    simp [shift, h]
  have g2 : ∀ j (h : j < q.length), (orP p q)[1 + p.length + j]? = some (q[j].map (setG fun x => x + (1 + p.length : Nat))) := fun j h => by
    unfold orP
    rw [show 1 + p.length + j = (p.length + j) + 1 by omega, List.getElem?_cons_succ, List.getElem?_append_right (by rw [shift_len]; omega), shift_len]
    simp [shift, h]
  funext ks
  unfold lang orL
  cases ks with
  | nil => rfl
  | cons k ks =>
    have ep : rm p 0 = p[0] := by unfold rm; simp [lp]
    have eq : rm q 0 = q[0] := by unfold rm; simp [lq]
    rw [goRow_cons, go_way lp, go_way lq]
    show (match getM (ways (rm (shift 1 p) 0 ++ rm (shift (1 + p.length) q) 0)) k with | none => false | some j => goRow (orP p q) j.toNat ks) = _
    rw [rm_shift hp0, rm_shift hq0]
    have hnd : (((rm p 0).map (setG fun j => j + (1 : Nat)) ++ (rm q 0).map (setG fun j => j + (1 + p.length : Nat))).map kyOf).Nodup := by
      rw [List.map_append, set_keys, set_keys]; exact ha
    rw [way_app hnd, way_set, way_set, ep, eq]
    cases e1 : getM (ways p[0]) k with
    | some x =>
      obtain ⟨h0, h1⟩ := tgt_way htp hnp lp e1
      have e2 : getM (ways q[0]) k = none := by
        cases e2 : getM (ways q[0]) k with
        | none => rfl
        | some y =>
          obtain ⟨s, hs, es, _⟩ := (way_iff (hnp _ (List.getElem_mem lp)) k x).mp e1
          obtain ⟨t, ht, et, _⟩ := (way_iff (hnq _ (List.getElem_mem lq)) k y).mp e2
          unfold Apart at ha
          rw [ep, eq, List.nodup_append] at ha
          exact absurd (es.trans et.symm) (ha.2.2 _ (List.mem_map_of_mem hs) _ (List.mem_map_of_mem ht))
      rw [e2]
      have ex : (x + ((1 : Nat) : Int)).toNat = 1 + x.toNat := by omega
      simp only [Option.map, Option.or, Bool.or_false]
      rw [ex]
      exact row_at g1 htp hnp ks x.toNat (by omega)
    | none =>
      cases e2 : getM (ways q[0]) k with
      | none => rfl
      | some y =>
        obtain ⟨h0, h1⟩ := tgt_way htq hnq lq e2
        have ex : (y + ((1 + p.length : Nat) : Int)).toNat = 1 + p.length + y.toNat := by omega
        simp only [Option.map, Option.or, Bool.false_or]
        rw [ex]
        exact row_at g2 htq hnq ks y.toNat (by omega)
theorem good_or {p q : Plan} (hp : GoodPlan p) (hq : GoodPlan q) (hp0 : p ≠ []) (hq0 : q ≠ []) (ha : Apart p q) (hz : 1 + p.length + q.length < sizeLine) (hr : (rm p 0).length + (rm q 0).length < sizeLine) : GoodPlan (orP p q) := by
  have hl := orP_len p q
  have lp := List.length_pos_iff.mpr hp0
  have lq := List.length_pos_iff.mpr hq0
  have s1 := good_shift hp (n := 1) (m := (orP p q).length) (by omega)
  have s2 := good_shift hq (n := 1 + p.length) (m := (orP p q).length) (by omega)
  refine ⟨by omega, fun r hr' => ?_⟩
  rcases List.mem_cons.mp hr' with e | hr'
  · subst e
    have m1 : rm (shift 1 p) 0 ∈ shift 1 p := rm_mem (by decide) (by rw [shift_len]; omega)
    have m2 : rm (shift (1 + p.length) q) 0 ∈ shift (1 + p.length) q := rm_mem (by decide) (by rw [shift_len]; omega)
    obtain ⟨a1, a2, a3⟩ := s1 _ m1
    obtain ⟨b1, b2, b3⟩ := s2 _ m2
    refine ⟨?_, fun s hs => ?_, ?_⟩
    · rw [List.length_append, rm_shift hp0, rm_shift hq0, List.length_map, List.length_map]; exact hr
    · rcases List.mem_append.mp hs with hs | hs
      · exact a2 s hs
      · exact b2 s hs
    · rw [rm_shift hp0, rm_shift hq0, List.map_append, set_keys, set_keys]; exact ha
  · rcases List.mem_append.mp hr' with hr' | hr'
    · exact s1 r hr'
    · exact s2 r hr'
end K

namespace K
open PySem L2 DL PyProof.Rows
/-! ### the lines of a service, by its rows -/
theorem can_from {q : Plan} (hc : Can q) {k : Nat} (hk : k < q.length) (h0 : 0 < k) : ∃ i, ∃ (hi : i < q.length), i < k ∧ ∃ s ∈ q[i], goalOf s = (k : Int) := by
  have h1 := hc.rc k hk
  have e : (0 : Int) :: fl q = (0 :: fl (q.take k)) ++ fl (q.drop k) := by
    have : fl q = fl (q.take k) ++ fl (q.drop k) := by
      unfold fl
      rw [← List.flatMap_append, List.take_append_drop]
    rw [this]; rfl
  obtain ⟨zs, hz⟩ := dst_app (0 :: fl (q.take k)) (fl (q.drop k))
  rw [← e, hc.eq] at hz
  have hm : (dst (0 :: fl (q.take k)))[k]? = (rangeI q.length)[k]? := by rw [hz, List.getElem?_append_left h1]
  have hr : (rangeI q.length)[k]? = some (k : Int) := by simp [rangeI, hk]
  have hin : (k : Int) ∈ (0 : Int) :: fl (q.take k) := (mem_dst _ _).mp (List.mem_of_getElem? (hm.trans hr))
  rcases List.mem_cons.mp hin with h | h
  · omega
  · have : ∃ r ∈ q.take k, ∃ s ∈ r, goalOf s = (k : Int) := by
      obtain ⟨r, hr, hx⟩ := List.mem_flatMap.mp h
      obtain ⟨s, hs, e⟩ := List.mem_map.mp hx
      exact ⟨r, hr, s, hs, e⟩
    obtain ⟨r, hr, s, hs, e⟩ := this
    obtain ⟨i, hi, ei⟩ := List.mem_iff_getElem.mp hr
    rw [List.length_take] at hi
    rw [List.getElem_take] at ei
    exact ⟨i, by omega, by omega, s, by rw [ei]; exact hs, e⟩
theorem can_row {q : Plan} (hc : Can q) (hn : NodK q) : ∀ (k : Nat), k < q.length → ∃ ks, ∀ ws, goRow q 0 (ks ++ ws) = goRow q k ws := by
  intro k
  induction k using Nat.strongRecOn with
  | _ k ih =>
    intro hk
    by_cases h0 : k = 0
    · subst h0; exact ⟨[], fun _ => rfl⟩
    · obtain ⟨i, hi, hik, s, hs, eg⟩ := can_from hc hk (by omega)
      obtain ⟨ks, h⟩ := ih i hik hi
      refine ⟨ks ++ [kyOf s], fun ws => ?_⟩
      rw [List.append_assoc, h]
      show goRow q i (kyOf s :: ws) = _
      rw [go_way hi, (way_iff (hn _ (List.getElem_mem hi)) (kyOf s) (k : Int)).mpr ⟨s, hs, rfl, eg⟩]
      simp
theorem row_has {p : Plan} (ht : Tgt p) (hn : NodK p) : ∀ (ks : List K3) (k : K3) (i : Nat), i < p.length → goRow p i (ks ++ [k]) = true → ∃ r ∈ p, ∃ s ∈ r, kyOf s = k
  | [], k, i, hi, h => by
    rw [List.nil_append, go_one hi] at h
    obtain ⟨v, hv⟩ := Option.isSome_iff_exists.mp h
    obtain ⟨s, hs, e, _⟩ := (way_iff (hn _ (List.getElem_mem hi)) k v).mp hv
    exact ⟨_, List.getElem_mem hi, s, hs, e⟩
  | k1 :: ks, k, i, hi, h => by
    rw [List.cons_append, go_way hi] at h
    cases e : getM (ways p[i]) k1 with
    | none => rw [e] at h; cases h
    | some j =>
      rw [e] at h
      obtain ⟨h0, h1⟩ := tgt_way ht hn hi e
      exact row_has ht hn ks k j.toNat (by omega) h
/-- the lines of a language -/
def LinL (L : Lg) (x : Str) : Prop := ∃ ks k, L (ks ++ [k]) = true ∧ k.2.1 = x
def linesP (p : Plan) : List Str := (p.map fun r => r.map fun s => s.2.1).flatten
theorem mem_linesP {p : Plan} {x : Str} : x ∈ linesP p ↔ ∃ r ∈ p, ∃ s ∈ r, s.2.1 = x := by
  unfold linesP
  rw [List.mem_flatten]
  constructor
  · rintro ⟨l, hl, hx⟩
    obtain ⟨r, hr, rfl⟩ := List.mem_map.mp hl
    obtain ⟨s, hs, e⟩ := List.mem_map.mp hx
    exact ⟨r, hr, s, hs, e⟩
  · rintro ⟨r, hr, s, hs, e⟩
    exact ⟨_, List.mem_map.mpr ⟨r, hr, rfl⟩, List.mem_map.mpr ⟨s, hs, e⟩⟩
theorem linL_sub {p : Plan} (ht : Tgt p) (hn : NodK p) (h0 : p ≠ []) {x : Str} (h : LinL (lang p) x) : x ∈ linesP p := by
  obtain ⟨ks, k, h1, e⟩ := h
  obtain ⟨r, hr, s, hs, ek⟩ := row_has ht hn ks k 0 (List.length_pos_iff.mpr h0) h1
  exact mem_linesP.mpr ⟨r, hr, s, hs, by rw [← e, ← ek]; rfl⟩
theorem Lst.lines {z : Plan} {L : Lg} (h : Lst z L) (x : Str) : x ∈ linesP z ↔ LinL L x := by
  constructor
  · intro hx
    obtain ⟨r, hr, s, hs, e⟩ := mem_linesP.mp hx
    obtain ⟨i, hi, er⟩ := List.mem_iff_getElem.mp hr
    subst er
    obtain ⟨ks, hk⟩ := can_row h.can h.good.nodk i hi
    refine ⟨ks, kyOf s, ?_, e⟩
    rw [← h.eq]
    show goRow z 0 (ks ++ [kyOf s]) = true
    rw [hk, go_one hi, (way_iff (h.good.nodk _ (List.getElem_mem hi)) (kyOf s) (goalOf s)).mpr ⟨s, hs, rfl, rfl⟩]
    rfl
  · intro hx
    rw [← h.eq] at hx
    exact linL_sub h.good.tgt h.good.nodk h.ne hx
theorem linL_mir {L : Lg} {x : Str} : LinL (mirL L) x ↔ LinL L x := by
  have one : ∀ {L : Lg}, LinL (mirL L) x → LinL L x := fun {L} ⟨ks, k, h, e⟩ => ⟨ks.map flipK, flipK k, by
    have : mirL L (ks ++ [k]) = L ((ks ++ [k]).map flipK) := rfl
    rw [this, List.map_append] at h; exact h, e⟩
  exact ⟨one, fun h => one (L := mirL L) (by rw [mirL_two]; exact h)⟩
end K

namespace K
open PySem L2 DL
local macro_rules | `(tactic| walk_at "dl") => `(tactic| with_reducible first
  | refine es_if ?_ | refine es_append ?_ | refine es_sub ?_ | refine es_par3 ?_ | refine es_parD ?_ | refine es_asg ?_ | refine es_ret ?_ | refine es_retN ?_ | refine es_next ?_ | refine es_drop ?_ | refine es_break ?_ | refine es_cont ?_
  | refine et_val ?_ | refine et_B ?_ | refine et_not ?_ | refine et_and ?_ | refine et_or ?_ | refine et_yes ?_
  | refine ev_op ?_ | refine ev_un ?_ | refine ev_cb ?_ | refine ev_tup ?_ | refine ev_lst ?_ | refine ev_ifx ?_ | refine ev_andV ?_ | refine ev_orV ?_ | refine ev_notV ?_ | refine ev_sl ?_
  | refine ea_cons ?_ | refine ea_nil ?_ | refine ev_int ?_ | refine ev_str ?_ | refine ev_bl ?_ | refine ev_non ?_ | refine eo_none ?_ | refine eo_some ?_
  | refine gts_cons ?_ | refine gts_nil ?_
  | refine o2_addI ?_ | refine o2_ltI ?_ | refine o2_leI ?_ | refine o2_gtI ?_ | refine o2_geI ?_ | refine o2_ltS ?_ | refine o2_leS ?_ | refine o2_gtS ?_ | refine o2_sub ?_
  | refine oa_intI ?_ | refine oa_intB ?_ | refine oa_abs ?_ | refine oa_two ?_ | refine ulen_R ?_ | refine ulen_T ?_ | refine ulen_L LstV.d ?_
  | (refine ⟨_, Pu.d, ?_⟩) | (refine ⟨_, Pu.ptr, ?_⟩) | (refine ⟨_, Pu.fr, ?_⟩))
local macro_rules | `(tactic| walk_at "dv") => `(tactic| first
  | refine ev_var (by rfl) ?_ | refine ev_ptr (.inl (by rfl)) ?_ | refine ev_ptr (.inr (.inl (by rfl))) ?_ | refine ev_ptr (.inr (.inr (by rfl))) ?_
  | refine uix_L (LstV.o ⟨0, .inr (by rfl)⟩) (by rfl) ?_ | refine uix_L LstV.d (by rfl) ?_ | refine uix_T (by rfl) ?_
  | refine gt_tup (by rfl) ?_ | refine gt_name (by first | exact all_in | simp) ?_ | refine ⟨_, rfl, ?_⟩)
local macro_rules | `(tactic| walk_at "e") => `(tactic| repeat (first | walk_at "dl" | walk_at "dv"))
local macro_rules | `(tactic| walk_at "d") => `(tactic| repeat (first | with_reducible refine es_seq ?_ | walk_at "dl" | walk_at "dv"))
section
variable {P : Program} {w : World} {K : PySem.W.Frag} {mg : Str → Option Value} {base : Heap}
abbrev s_Service_lines : Stmt := inClass (topS 20) 2
abbrev N_Service_lines : List Str := ["self", "steps", "step"]
theorem sc_Service_lines : FnScope N_Service_lines ["self"] (defScope s_Service_lines) := ⟨rfl, rfl, rfl, by decide +kernel, rfl, by decide +kernel, by decide +kernel⟩

def SLines (C : Addr) : List T → (RT → Prop) → Prop := fun ts P => ∃ (p : Plan) (U : List Str), GoodPlan p ∧ U.length < 64 ∧ (∀ x ∈ linesP p, x ∈ U) ∧ ts = [objS C p] ∧ ∀ ys, SrtSet ys (linesP p) → P (.new (.lst (ys.map .str)))
theorem ok_lines {f C : Addr} {fd : FuncData} (Fn : Fun K "lines" "Service.lines" s_Service_lines f fd) (TX : TXF mg) (hC : Cls K C) (hR : NoAttr K C "_rooms") : FnOk P w K mg base CX0 1 f fd ["self"] (spP ⟨P, w, K⟩ (SLines C)) := by
  refine Fn.ok sc_Service_lines (fun vs H Q E h => ?_) (fun cdv A outer s H vs Q E hr h => ?_)
  · obtain ⟨F, ts, _, hd, P, ⟨_, _, _, _, _, rfl, _⟩, _⟩ := h
    rw [hd.length]; rfl
  · obtain ⟨F, ts, fh, hd, PP, ⟨p, U, hgp, hU, hsub, rfl, hk⟩, q⟩ := h
    have hu := hr.units
    refine ⟨_, (pss_one (ps_ret (pe_callB (call_sortedTxB ⟨P, w, K⟩ rfl rfl) (by rfl) TX.n_sorted (by decide +kernel) (pa_cons (scg2 (own := [("steps", 1), ("step", 2)]) (ownj := [2]) (wayTxtB ⟨P, w, K⟩ rfl) (by rfl) sc_Service_lines.nd (pi_listB ⟨P, w, K⟩ rfl (pe_fldB ⟨P, w, K⟩ rfl (pv 0) (by rfl))) (blkOk_by (N := N_Service_lines) (sc := defScope s_Service_lines) (by decide +kernel)) (by decide) (fun _ _ _ _ _ => (pg_name (i := 1) sc_Service_lines.nd rfl (Or.inl rfl))) (fun _ _ _ _ _ => pts_nil) (fun _ _ _ _ _ => (pi_listB ⟨P, w, K⟩ rfl (pv 1))) (fun _ _ _ _ _ => (pg_name (i := 2) sc_Service_lines.nd rfl (Or.inl rfl))) (fun _ _ _ _ _ => pts_nil) (fun _ _ _ _ _ => (pe_ix (ix_B ⟨P, w, K⟩ rfl hu) (pv 2) pe_int (fun _ _ => rfl)))) pa_nil)))), ?_⟩
    refine run_P (n := 2) fh hd rfl q ?_
    dsimp only [cxOf]
    refine es_ret (ev_cb (ea_consK ?_))
    refine ev_sc2 U (show U.length + 1 < 4096 by omega) (ei_L ?_)
    refine ev_fld (ns := ["_rooms"]) (us := [ePlan p]) (t := ePlan p) hC hR ?_
    refine ev_var (by rfl) ⟨rfl, rfl, ?_⟩
    refine ⟨_, Pu.d, fun i xs δ => xs = linesP (p.take i) ∧ δ = [.d (objS C p), .no, .no], ⟨by simp [linesP], rfl⟩, fun _ _ _ _ => trivial, ?_, ?_⟩
    · rintro i t xs δ hti ⟨rfl, rfl⟩
      rw [List.getElem?_map] at hti
      obtain ⟨r, hr', rfl⟩ := Option.map_eq_some_iff.mp hti
      have hrm := List.mem_of_getElem? hr'
      walk_at "d"
      refine ite2 (fun _ => ?_) (fun h => nomatch h)
      refine ej_L ?_
      walk_at "d"
      refine ⟨fun j xs δ => xs = linesP (p.take i) ++ (r.take j).map (fun s => s.2.1) ∧ δ.set 2 .no = [.d (objS C p), .d (eRoom r), .no], ⟨by simp, rfl⟩, fun _ _ _ _ => trivial, ?_, ?_⟩
      · rintro j t xs δ htj ⟨rfl, hδ⟩
        rw [List.getElem?_map] at htj
        obtain ⟨st, hs', rfl⟩ := Option.map_eq_some_iff.mp htj
        have hsm := List.mem_of_getElem? hs'
        have e3 : wd δ [2] = [.d (objS C p), .d (eRoom r), .no] := hδ
        rw [e3]
        refine gt_name (by simp) ?_
        walk_at "d"
        refine ite2 (fun _ => ?_) (fun h => nomatch h)
        walk_at "d"
        refine ⟨hsub _ (mem_linesP.mpr ⟨r, hrm, st, hsm, rfl⟩), ?_, rfl⟩
        rw [List.take_add_one, hs']; simp
      · rintro xs δ ⟨rfl, hδ⟩
        rw [List.length_map, List.take_length]
        refine ⟨?_, ?_⟩
        · rw [List.take_add_one, hr']; simp [linesP]
        · show (δ.set 2 .no).set 1 .no = _
          rw [hδ]; rfl
    · rintro xs ks δ ⟨rfl, rfl⟩ is hu' p1
      rw [List.length_map, List.take_length] at is hu'
      refine ⟨_, _, rfl, ea_nil ?_⟩
      refine oa_sortedTx (Nat.lt_of_le_of_lt (is.len hu') hU) fun ys pm hs p2 => ?_
      exact hk ys (.of is pm hs)
end
end K

namespace K
open PySem L2 DL
/-! ### pairs of rooms that are marked as unlike -/
abbrev PK := Option Int × Option Int
abbrev MK := List (PK × Int)
def has (m : MK) (q : PK) : Prop := (getM m q).isSome = true
def pk (b t : Nat) : PK := (some (b : Int), some (t : Int))
theorem has_put {m : MK} {q q' : PK} {x : Int} : has (putM m q x) q' ↔ has m q' ∨ q' = q := by
  unfold has
  rw [getM_put]
  by_cases h : q = q'
  · subst h; simp
  · rw [if_neg h]
    exact ⟨.inl, fun z => z.elim id fun e => absurd e.symm h⟩
theorem has_iff {m : MK} (h : (m.map (·.1)).Nodup) (q : PK) : has m q ↔ q ∈ m.map (·.1) := by
  unfold has
  rw [Option.isSome_iff_exists, List.mem_map]
  constructor
  · rintro ⟨v, hv⟩; exact ⟨(q, v), (getM_iff h q v).mp hv, rfl⟩
  · rintro ⟨⟨a, v⟩, hm, rfl⟩; exact ⟨v, (getM_iff h a v).mpr hm⟩
/-- marks so far: of rooms that are unlike -/
structure Mks (p : Plan) (m : MK) : Prop where
  nd : (m.map (·.1)).Nodup
  rg : ∀ q, has m q → ∃ b t : Nat, b < p.length ∧ t < p.length ∧ q = pk b t
  ok : ∀ b t : Nat, b < p.length → t < p.length → has m (pk b t) → ¬ Same p b p t
theorem Mks.nil (p : Plan) : Mks p [] := ⟨.nil, fun q h => by simp [has, getM] at h, fun b t _ _ h => by simp [has, getM] at h⟩
theorem Mks.len {p : Plan} {m : MK} (h : Mks p m) : m.length ≤ p.length * p.length := by
  have key := nodup_sub (m := (List.range (p.length * p.length)).map fun i => pk (i / p.length) (i % p.length)) h.nd fun q hq => by
    obtain ⟨b, t, hb, ht, rfl⟩ := h.rg q ((has_iff h.nd q).mpr hq)
    refine List.mem_map.mpr ⟨b * p.length + t, List.mem_range.mpr ?_, ?_⟩
    · have : (b + 1) * p.length ≤ p.length * p.length := Nat.mul_le_mul_right _ hb
      have e : (b + 1) * p.length = b * p.length + p.length := by rw [Nat.add_mul, Nat.one_mul]
      omega
    · have e1 : (b * p.length + t) / p.length = b := by
        rw [Nat.mul_comm, Nat.mul_add_div (by omega), Nat.div_eq_of_lt ht]; rfl
      have e2 : (b * p.length + t) % p.length = t := by
        rw [Nat.mul_comm, Nat.mul_add_mod, Nat.mod_eq_of_lt ht]
      rw [e1, e2]
  rw [List.length_map, List.length_map, List.length_range] at key
  exact key
theorem pk_inj {b t b' t' : Nat} (h : pk b t = pk b' t') : b = b' ∧ t = t' := by
  unfold pk at h
  injection h with h1 h2
  injection h1 with h1
  injection h2 with h2
  exact ⟨by omega, by omega⟩
theorem Mks.put {p : Plan} {m : MK} (h : Mks p m) {b t : Nat} (hb : b < p.length) (ht : t < p.length) (hs : ¬ Same p b p t) (x : Int) : Mks p (putM m (pk b t) x) :=
  ⟨putM_keys h.nd, fun q hq => (has_put.mp hq).elim (h.rg q) fun e => ⟨b, t, hb, ht, e⟩, fun b' t' hb' ht' hq => (has_put.mp hq).elim (h.ok b' t' hb' ht') fun e => by
    obtain ⟨rfl, rfl⟩ := pk_inj e
    exact hs⟩
/-- where two rooms lead by a key -/
def via (p : Plan) (b t : Nat) (k : K3) : PK := (getM (ways (rm p b)) k, getM (ways (rm p t)) k)
theorem rm_nat {p : Plan} {b : Nat} (h : b < p.length) : rm p b = p[b] := by unfold rm; simp [h]
/-- a pair is to be marked, by marks m -/
def Need (p : Plan) (m : MK) (b t : Nat) : Prop := keysOf (rm p b) ≠ keysOf (rm p t) ∨ ∃ k ∈ keysOf (rm p b), has m (via p b t k)
theorem keysOf_same {p : Plan} (hg : GoodPlan p) {b t : Nat} (hb : b < p.length) (ht : t < p.length) (h : Same p b p t) : keysOf (rm p b) = keysOf (rm p t) := by
  rw [rm_nat hb, rm_nat ht]
  have nb := hg.nodk _ (List.getElem_mem hb)
  have nt := hg.nodk _ (List.getElem_mem ht)
  refine pair_ext klt_asymm (keysOf_sorted nb) (keysOf_sorted nt) fun x => ?_
  rw [(keysOf_perm _).mem_iff, (keysOf_perm _).mem_iff, key_mem nb, key_mem nt, same_some hb ht h]
theorem need_unlike {p : Plan} (hg : GoodPlan p) {m : MK} (hm : Mks p m) {b t : Nat} (hb : b < p.length) (ht : t < p.length) (h : Need p m b t) : ¬ Same p b p t := fun hs => by
  rcases h with h | ⟨k, _, h⟩
  · exact h (keysOf_same hg hb ht hs)
  · obtain ⟨x, y, hx, hy, e⟩ := hm.rg _ h
    unfold via at e
    unfold pk at e
    injection e with e1 e2
    rw [rm_nat hb] at e1
    rw [rm_nat ht] at e2
    have := same_next hb ht hs e1 e2
    simp only [Int.toNat_natCast] at this
    refine hm.ok x y hx hy ?_ this
    have : via p b t k = pk x y := by unfold via pk; rw [rm_nat hb, rm_nat ht, e1, e2]
    rwa [this] at h
/-- a sweep from marks m0, so far to the pairs B -/
structure Swp (p : Plan) (m0 m : MK) (B : Nat → Nat → Prop) : Prop where
  mks : Mks p m
  sub : ∀ q, has m0 q → has m q
  cl : ∀ b t, b < p.length → t < p.length → B b t → Need p m0 b t → has m (pk b t)
theorem Need.mono {p : Plan} {m m' : MK} (h : ∀ q, has m q → has m' q) {b t : Nat} (n : Need p m b t) : Need p m' b t := n.imp id fun ⟨k, h1, h2⟩ => ⟨k, h1, h _ h2⟩
/-- all that is to be marked is: exactly the unlike pairs are marked -/
theorem marks_full {p : Plan} (hg : GoodPlan p) {m : MK} (hm : Mks p m) (hc : ∀ b t, b < p.length → t < p.length → Need p m b t → has m (pk b t)) : ∀ b t, b < p.length → t < p.length → (has m (pk b t) ↔ ¬ Same p b p t) := by
  have key : ∀ (ks : List K3) (b t : Nat), b < p.length → t < p.length → ¬ has m (pk b t) → goRow p b ks = goRow p t ks := by
    intro ks
    induction ks with
    | nil => intro b t _ _ _; rfl
    | cons k ks ih =>
      intro b t hb ht hn
      have hnn : ¬ Need p m b t := fun h => hn (hc b t hb ht h)
      have ek : keysOf (rm p b) = keysOf (rm p t) := Classical.byContradiction fun h => hnn (.inl h)
      have hv : ∀ k ∈ keysOf (rm p b), ¬ has m (via p b t k) := fun k hk h => hnn (.inr ⟨k, hk, h⟩)
      rw [rm_nat hb, rm_nat ht] at ek
      have nb := hg.nodk _ (List.getElem_mem hb)
      have nt := hg.nodk _ (List.getElem_mem ht)
      have es : (getM (ways p[b]) k).isSome = (getM (ways p[t]) k).isSome := by
        rw [Bool.eq_iff_iff, ← key_mem nb, ← key_mem nt, ← (keysOf_perm _).mem_iff, ← (keysOf_perm p[t]).mem_iff, ek]
      rw [goRow_cons, goRow_cons, List.getElem?_eq_getElem hb, List.getElem?_eq_getElem ht]
      dsimp only
      cases h1 : getM (ways p[b]) k with
      | none =>
        rw [h1] at es
        cases h2 : getM (ways p[t]) k with
        | none => rfl
        | some y => rw [h2] at es; cases es
      | some x =>
        rw [h1] at es
        cases h2 : getM (ways p[t]) k with
        | none => rw [h2] at es; cases es
        | some y =>
          obtain ⟨sx, hsx, _, rfl⟩ := (way_iff nb k x).mp h1
          obtain ⟨sy, hsy, _, rfl⟩ := (way_iff nt k y).mp h2
          have tx : 0 ≤ goalOf sx ∧ goalOf sx < p.length := ((hg.2 _ (List.getElem_mem hb)).2.1 sx hsx).2.2.2
          have ty : 0 ≤ goalOf sy ∧ goalOf sy < p.length := ((hg.2 _ (List.getElem_mem ht)).2.1 sy hsy).2.2.2
          refine ih _ _ (by omega) (by omega) fun hh => ?_
          refine hv k ?_ ?_
          · rw [rm_nat hb, (keysOf_perm _).mem_iff, key_mem nb, h1]; rfl
          · have : via p b t k = pk (goalOf sx).toNat (goalOf sy).toNat := by
              unfold via pk
              rw [rm_nat hb, rm_nat ht, h1, h2, Int.toNat_of_nonneg tx.1, Int.toNat_of_nonneg ty.1]
            rw [this]; exact hh
  intro b t hb ht
  exact ⟨hm.ok b t hb ht, fun h => Classical.byContradiction fun hn => h fun ks => key ks b t hb ht hn⟩
/-- a whole sweep that adds nothing -/
theorem sweep_end {p : Plan} {m0 m : MK} (h0 : Mks p m0) (h : Swp p m0 m fun _ _ => True) (hl : m.length ≤ m0.length) : ∀ b t, b < p.length → t < p.length → Need p m b t → has m (pk b t) := by
  have sub2 : ∀ q, has m q → has m0 q := fun q hq => Classical.byContradiction fun hn => by
    have n1 : (q :: m0.map (·.1)).Nodup := List.nodup_cons.mpr ⟨fun z => hn ((has_iff h0.nd q).mpr z), h0.nd⟩
    have := nodup_sub (m := m.map (·.1)) n1 fun x hx => by
      rcases List.mem_cons.mp hx with e | hx
      · subst e; exact (has_iff h.mks.nd _).mp hq
      · exact (has_iff h.mks.nd x).mp (h.sub x ((has_iff h0.nd x).mpr hx))
    simp only [List.length_cons, List.length_map] at this
    omega
  exact fun b t hb ht n => h.cl b t hb ht trivial (n.mono sub2)
end K

namespace K
open PySem L2 DL
local macro_rules | `(tactic| walk_at "dl") => `(tactic| with_reducible first
  | refine es_if ?_ | refine es_append ?_ | refine es_sub ?_ | refine es_par3 ?_ | refine es_parD ?_ | refine es_asg ?_ | refine es_ret ?_ | refine es_retN ?_ | refine es_next ?_ | refine es_drop ?_ | refine es_break ?_ | refine es_cont ?_
  | refine et_val ?_ | refine et_B ?_ | refine et_not ?_ | refine et_and ?_ | refine et_or ?_ | refine et_yes ?_
  | refine ev_op ?_ | refine ev_un ?_ | refine ev_cb ?_ | refine ev_tup ?_ | refine ev_lst ?_ | refine ev_ifx ?_ | refine ev_andV ?_ | refine ev_orV ?_ | refine ev_notV ?_ | refine ev_sl ?_
  | refine ea_cons ?_ | refine ea_nil ?_ | refine ev_int ?_ | refine ev_str ?_ | refine ev_bl ?_ | refine ev_non ?_ | refine eo_none ?_ | refine eo_some ?_
  | refine gts_cons ?_ | refine gts_nil ?_
  | refine o2_addI ?_ | refine o2_ltI ?_ | refine o2_leI ?_ | refine o2_gtI ?_ | refine o2_geI ?_ | refine o2_ltS ?_ | refine o2_leS ?_ | refine o2_gtS ?_ | refine o2_sub ?_
  | refine oa_intI ?_ | refine oa_intB ?_ | refine oa_abs ?_ | refine oa_two ?_ | refine ulen_R ?_ | refine ulen_T ?_ | refine ulen_L LstV.d ?_
  | (refine ⟨_, Pu.d, ?_⟩) | (refine ⟨_, Pu.ptr, ?_⟩) | (refine ⟨_, Pu.fr, ?_⟩))
local macro_rules | `(tactic| walk_at "dv") => `(tactic| first
  | refine ev_var (by rfl) ?_ | refine ev_ptr (.inl (by rfl)) ?_ | refine ev_ptr (.inr (.inl (by rfl))) ?_ | refine ev_ptr (.inr (.inr (by rfl))) ?_
  | refine uix_L (LstV.o ⟨0, .inr (by rfl)⟩) (by rfl) ?_ | refine uix_L LstV.d (by rfl) ?_ | refine uix_T (by rfl) ?_
  | refine gt_tup (by rfl) ?_ | refine gt_name (by first | exact all_in | simp) ?_ | refine ⟨_, rfl, ?_⟩)
local macro_rules | `(tactic| walk_at "e") => `(tactic| repeat (first | walk_at "dl" | walk_at "dv"))
local macro_rules | `(tactic| walk_at "d") => `(tactic| repeat (first | with_reducible refine es_seq ?_ | walk_at "dl" | walk_at "dv"))
section
variable {P : Program} {w : World} {K : PySem.W.Frag} {mg : Str → Option Value} {base : Heap}
abbrev s_law_keys : Stmt := topS 36
abbrev N_law_keys : List Str := ["steps_here", "step"]
theorem sc_law_keys : FnScope N_law_keys ["steps_here"] (defScope s_law_keys) := ⟨rfl, rfl, rfl, by decide +kernel, rfl, by decide +kernel, by decide +kernel⟩

def SKeys : List T → (RT → Prop) → Prop := fun ts P => ∃ r : Room, r.length < sizeLine ∧ ts = [eRoom r] ∧ P (.new (.lst ((keysOf r).map eK)))
theorem ok_keys {f : Addr} {fd : FuncData} (Fn : Fun K "_law_keys" "_law_keys" s_law_keys f fd) (TX : TXF mg) : FnOk P w K mg base CX0 1 f fd ["steps_here"] (spP ⟨P, w, K⟩ SKeys) := by
  refine Fn.ok sc_law_keys (fun vs H Q E h => ?_) (fun cdv A outer s H vs Q E hr h => ?_)
  · obtain ⟨F, ts, _, hd, P, ⟨_, _, rfl, _⟩, _⟩ := h
    rw [hd.length]; rfl
  · obtain ⟨F, ts, fh, hd, PP, ⟨r, hz, rfl, hk⟩, q⟩ := h
    have hu := hr.units
    have hu66 := units66 hr
    refine ⟨_, (pss_one (ps_ret (pe_callB (call_sortedB ⟨P, w, K⟩ rfl hu66) (by rfl) TX.n_sorted (by decide +kernel) (pa_cons (pe_lc (own := [("step", 1)]) (by rfl) sc_law_keys.nd (pi_listB ⟨P, w, K⟩ rfl (pv 0)) (blkOk_by (N := N_law_keys) (sc := defScope s_law_keys) (by decide +kernel)) (fun _ _ _ _ _ => (pg_name (i := 1) sc_law_keys.nd rfl (Or.inl rfl))) (fun _ _ _ _ _ => pts_nil) (fun _ _ _ _ _ => (pe_slice (sl_B ⟨P, w, K⟩ rfl) (pv 1) po_none (po_some pe_int)))) pa_nil)))), ?_⟩
    refine run_P (n := 1) fh hd rfl q ?_
    dsimp only [cxOf]
    refine es_ret (ev_cb (ea_cons ?_))
    refine ev_lcI (ei_L ?_)
    walk_at "e"
    refine ⟨by rw [List.length_map]; omega, fun i acc δ => acc = ((r.take i).map kyOf).map eK ∧ δ = [.d (eRoom r), .no], ⟨by simp, rfl⟩, fun _ _ _ _ => trivial, ?_, ?_⟩
    · rintro i t acc δ ht _ ⟨rfl, rfl⟩
      rw [List.getElem?_map] at ht
      obtain ⟨st, hst, rfl⟩ := Option.map_eq_some_iff.mp ht
      walk_at "d"
      refine ite2 (fun _ => ?_) (fun h => nomatch h)
      walk_at "d"
      refine os_T (ts := [.str st.1, .str st.2.1, .str st.2.2.1, .int st.2.2.2]) (show ¬ (HT.sIx 4 0 none = 0 ∧ HT.sIx 4 4 (some 3) = 4) by decide) ?_
      refine ⟨eK (kyOf st), Pu.d, ?_, rfl⟩
      rw [List.take_add_one, hst]; simp
    · rintro acc δ _ ⟨rfl, rfl⟩ p2
      rw [List.length_map, List.take_length]
      refine ⟨_, Pu.fr, ea_nil ?_⟩
      refine oa_sorted (e := eK) dK (xs := r.map kyOf) LstV.d eK_py (PySem.W.AllAlike.of fun _ _ => by simp [PySem.W.alike, PySem.W.alikeAll, dK]) (PySem.W.Sortable.tuples fun _ => ⟨_, _, rfl⟩) (fun a => by rw [dK_depth]; decide) fun p1 => ?_
      exact hk
abbrev s_law_parted : Stmt := topS 37
abbrev N_law_parted : List Str := ["plan", "marked", "many", "base", "two", "keys_here", "key"]
theorem sc_law_parted : FnScope N_law_parted ["plan"] (defScope s_law_parted) := ⟨rfl, rfl, rfl, by decide +kernel, rfl, by decide +kernel, by decide +kernel⟩

/-- exactly the pairs of unlike rooms are marked -/
def Marks (p : Plan) (m : MK) : Prop := ∀ b t, b < p.length → t < p.length → (has m (pk b t) ↔ ¬ Same p b p t)
def SParted : List T → (RT → Prop) → Prop := fun ts P => ∃ p : Plan, GoodPlan p ∧ p.length ≤ 200 ∧ ts = [ePlan p] ∧ ∀ m : MK, Marks p m → P (.new (.N pairE T.int m))
theorem keysOf_len (r : Room) : (keysOf r).length = r.length := by rw [(keysOf_perm r).length_eq, List.length_map]
theorem okK_keys {r : Room} (h : ∀ s ∈ r, okS s) : ∀ k ∈ keysOf r, okK k := fun k hk => by
  obtain ⟨s, hs, rfl⟩ := List.mem_map.mp ((keysOf_perm r).mem_iff.mp hk)
  exact h s hs
theorem ok_parted {f : Addr} {fd : FuncData} (Fn : Fun K "_law_parted" "_law_parted" s_law_parted f fd) (TX : TXF mg) (C_law_keys : Cal P w K mg base CX0 "_law_keys" 1 ["steps_here"] (spP ⟨P, w, K⟩ SKeys)) (C_law_goal : Cal P w K mg base CX0 "_law_goal" 1 ["steps_here", "key"] (spP ⟨P, w, K⟩ SGoal)) : FnOk P w K mg base CX0 2 f fd ["plan"] (spP ⟨P, w, K⟩ SParted) := by
  refine Fn.ok sc_law_parted (fun vs H Q E h => ?_) (fun cdv A outer s H vs Q E hr h => ?_)
  · obtain ⟨F, ts, _, hd, P, ⟨_, _, _, rfl, _⟩, _⟩ := h
    rw [hd.length]; rfl
  · obtain ⟨F, ts, fh, hd, PP, ⟨p, hg, hpl, rfl, hk⟩, q⟩ := h
    have hu := hr.units
    have hz9 : (40001 : Nat) < sizeLine := by decide +kernel
    have hsq : p.length * p.length ≤ 40000 := Nat.mul_le_mul hpl hpl
    have hok : ∀ r ∈ p, ∀ s ∈ r, okS s := fun r hr s hs => ((hg.2 r hr).2.1 s hs).ok
    refine ⟨_, (pss_cons (ps_par (i := 1) (j := 2) (by rfl) sc_law_parted.nd rfl rfl (by decide) rfl rfl (pa_cons pe_dnewN (pa_cons (pe_un un_neg pe_int) pa_nil)) (by rfl))
    (pss_cons (ps_while PassesOwn.never (pt_cmpR op_uGt (pe_callB (call_lenB ⟨P, w, K⟩ rfl hu) (by rfl) TX.n_len (by decide +kernel) (pa_cons (pv 1) pa_nil)) (pv 2) (nomark _)) (pss_cons (ps_set (i := 2) sc_law_parted.nd rfl (Or.inl rfl) (pe_callB (call_lenB ⟨P, w, K⟩ rfl hu) (by rfl) TX.n_len (by decide +kernel) (pa_cons (pv 1) pa_nil)))
    (pss_one (ps_for PassesOwn.never rfl (pi_range1 (by rfl) TX.n_range (pa_cons (pe_callB (call_lenB ⟨P, w, K⟩ rfl hu) (by rfl) TX.n_len (by decide +kernel) (pa_cons (pv 0) pa_nil)) pa_nil)) (pg_name (i := 3) sc_law_parted.nd rfl (Or.inl rfl)) (pss_one (ps_for PassesOwn.never rfl (pi_range1 (by rfl) TX.n_range (pa_cons (pe_callB (call_lenB ⟨P, w, K⟩ rfl hu) (by rfl) TX.n_len (by decide +kernel) (pa_cons (pv 0) pa_nil)) pa_nil)) (pg_name (i := 4) sc_law_parted.nd rfl (Or.inl rfl)) (pss_cons (ps_set (i := 5) sc_law_parted.nd rfl (Or.inl rfl) (pe_call C_law_keys.ok (hr.mono (by decide)) (by rfl) C_law_keys.mg C_law_keys.kp C_law_keys.bd .nil pass0 (pa_cons (pe_ix (ix_B ⟨P, w, K⟩ rfl hu) (pv 0) (pv 3) (fun _ _ => rfl)) pa_nil)))
    (pss_cons (ps_if (pt_cmpR (op_neB ⟨P, w, K⟩ rfl hu) (pv 5) (pe_call C_law_keys.ok (hr.mono (by decide)) (by rfl) C_law_keys.mg C_law_keys.kp C_law_keys.bd .nil pass0 (pa_cons (pe_ix (ix_B ⟨P, w, K⟩ rfl hu) (pv 0) (pv 4) (fun _ _ => rfl)) pa_nil)) (nomark _)) (pss_one (ps_asg pe_int (pg_sub (pv 1) (pe_tup (pa_cons (pv 3) (pa_cons (pv 4) pa_nil))) (set_B ⟨P, w, K⟩ rfl hu)))) pss_nil)
    (pss_one (ps_for PassesOwn.never rfl (pi_listB ⟨P, w, K⟩ rfl (pv 5)) (pg_name (i := 6) sc_law_parted.nd rfl (Or.inl rfl)) (pss_one (ps_if (pt_cmpR (op_inB ⟨P, w, K⟩ rfl hu) (pe_tup (pa_cons (pe_call C_law_goal.ok (hr.mono (by decide)) (by rfl) C_law_goal.mg C_law_goal.kp C_law_goal.bd .nil pass0 (pa_cons (pe_ix (ix_B ⟨P, w, K⟩ rfl hu) (pv 0) (pv 3) (fun _ _ => rfl)) (pa_cons (pv 6) pa_nil))) (pa_cons (pe_call C_law_goal.ok (hr.mono (by decide)) (by rfl) C_law_goal.mg C_law_goal.kp C_law_goal.bd .nil pass0 (pa_cons (pe_ix (ix_B ⟨P, w, K⟩ rfl hu) (pv 0) (pv 4) (fun _ _ => rfl)) (pa_cons (pv 6) pa_nil))) pa_nil))) (pv 1) (by with_unfolding_all rfl)) (pss_one (ps_asg pe_int (pg_sub (pv 1) (pe_tup (pa_cons (pv 3) (pa_cons (pv 4) pa_nil))) (set_B ⟨P, w, K⟩ rfl hu)))) pss_nil))))))))))))
    (pss_one (ps_ret (pv 1))))), ?_⟩
    refine run_P (n := 6) fh hd rfl q ?_
    dsimp only [cxOf]
    refine es_seq ?_
    refine es_parG (by decide) (ea_consK ?_)
    refine ev_newN pairE T.int fun pm => ⟨_, _, rfl, ?_⟩
    refine ea_cons (ev_un (ev_int ⟨_, Pu.d, o1_neg ⟨_, Pu.d, ea_nil ⟨_, _, rfl, .own, .d, ?_⟩⟩⟩))
    refine es_seqJ (fun δ => ∃ (m : MK) (x2 x3 x4 x5 x6 : SV), Marks p m ∧ δ = [.d (ePlan p), .own pm (.N pairE T.int m), x2, x3, x4, x5, x6]) ?_ ?_
    · refine es_while (fun mm δ => ∃ (m : MK) (many : Int) (x3 x4 x5 x6 : SV), Mks p m ∧ ((many = -1 ∧ m = []) ∨ ∃ m0, many = m0.length ∧ Mks p m0 ∧ Swp p m0 m fun _ _ => True) ∧ mm = (40001 - (many + 1)).toNat ∧ δ = [.d (ePlan p), .own pm (.N pairE T.int m), .d (.int many), x3, x4, x5, x6]) _ ⟨[], -1, _, _, _, _, Mks.nil p, .inl ⟨rfl, rfl⟩, rfl, rfl⟩ ?_
      rintro mm δ ⟨m, many, x3, x4, x5, x6, hm, hmany, rfl, rfl⟩
      have hml := hm.len
      walk_at "e"
      refine ulen_N (ke := pairE) (ev := T.int) (m := m) (DctV.o ⟨1, .inl rfl⟩) ?_
      walk_at "e"
      refine ite2 (fun h => ?_) (fun h => ?_)
      · have h : many < (m.length : Int) := by simpa using h
        refine es_seq ?_
        walk_at "e"
        refine ulen_N (ke := pairE) (ev := T.int) (m := m) (DctV.o ⟨1, .inl rfl⟩) ?_
        walk_at "e"
        refine es_forI (ei_R (ea_cons (ev_cb ?_)))
        walk_at "e"
        refine ⟨by rw [List.length_map]; omega, fun i δ => ∃ (m1 : MK) (x3 x4 x5 x6 : SV), Swp p m m1 (fun b _ => b < i) ∧ δ = [.d (ePlan p), .own pm (.N pairE T.int m1), .d (.int m.length), x3, x4, x5, x6], ⟨m, _, _, _, _, ⟨hm, fun _ h => h, fun _ _ _ _ h => by omega⟩, rfl⟩, fun _ _ _ => trivial, ?_, ?_⟩
        · rintro i t δ ht ⟨m1, x3, x4, x5, x6, hs1, rfl⟩
          obtain ⟨hi, et⟩ := List.getElem?_eq_some_iff.mp ht
          simp only [List.length_map, List.length_range] at hi
          have et : t = .int (i : Nat) := by simpa using et.symm
          subst et
          refine gt_name all_in ?_
          refine es_forI (ei_R (ea_cons (ev_cb ?_)))
          walk_at "e"
          refine ⟨by rw [List.length_map]; omega, fun j δ => ∃ (m2 : MK) (x4 x5 x6 : SV), Swp p m m2 (fun b t => b < i ∨ (b = i ∧ t < j)) ∧ δ = [.d (ePlan p), .own pm (.N pairE T.int m2), .d (.int m.length), .d (.int (i : Nat)), x4, x5, x6], ⟨m1, _, _, _, ⟨hs1.mks, hs1.sub, fun b t hb ht hh n => hs1.cl b t hb ht (by omega) n⟩, rfl⟩, fun _ _ _ => trivial, ?_, ?_⟩
          · rintro j t δ ht2 ⟨m2, x4, x5, x6, hs2, rfl⟩
            obtain ⟨hj, et⟩ := List.getElem?_eq_some_iff.mp ht2
            simp only [List.length_map, List.length_range] at hj
            have et : t = .int (j : Nat) := by simpa using et.symm
            subst et
            have hm2 := hs2.mks.len
            have hri : rm p (i : Int) ∈ p := by rw [rm_nat hi]; exact List.getElem_mem hi
            have hrj : rm p (j : Int) ∈ p := by rw [rm_nat hj]; exact List.getElem_mem hj
            have hati : atI (p.map eRoom) (i : Int) = some (eRoom (rm p (i : Int))) := atI_nat (by rw [List.getElem?_map, List.getElem?_eq_getElem hi, rm_nat hi]; rfl)
            have hatj : atI (p.map eRoom) (j : Int) = some (eRoom (rm p (j : Int))) := atI_nat (by rw [List.getElem?_map, List.getElem?_eq_getElem hj, rm_nat hj]; rfl)
            have hin := (hg.2 _ hri).1
            have hjn := (hg.2 _ hrj).1
            have okb := okK_keys (hok _ hri)
            have okt := okK_keys (hok _ hrj)
            refine gt_name all_in ?_
            refine es_seq ?_
            refine es_asg (ev_callPn ?_)
            walk_at "e"
            refine uix_L LstV.d hati ⟨_, Pu.d, ea_nil ?_⟩
            refine ⟨[eRoom (rm p (i : Int))], rfl, _, hin, rfl, fun p1 => ?_⟩
            refine gt_name all_in ?_
            refine es_frz (i := 5) rfl rfl ?_
            refine es_seqJ (fun δ => ∃ (m3 : MK) (x6 : SV), Mks p m3 ∧ (∀ q, has m2 q → has m3 q) ∧ (∀ q, has m3 q → has m2 q ∨ q = pk i j) ∧ (keysOf (rm p (i : Int)) ≠ keysOf (rm p (j : Int)) → has m3 (pk i j)) ∧ δ = [.d (ePlan p), .own pm (.N pairE T.int m3), .d (.int m.length), .d (.int (i : Nat)), .d (.int (j : Nat)), .d (.lst ((keysOf (rm p (i : Int))).map eK)), x6]) ?_ ?_
            · refine es_if (et_val (ev_op (ev_var (by rfl) ⟨_, Pu.d, ev_callPn ?_⟩)))
              walk_at "e"
              refine uix_L LstV.d hatj ⟨_, Pu.d, ea_nil ?_⟩
              refine ⟨[eRoom (rm p (j : Int))], rfl, _, hjn, rfl, fun p2 => ⟨_, Pu.fr, ?_⟩⟩
              refine o2_ne (t := .lst ((keysOf (rm p (i : Int))).map eK)) (u := .lst ((keysOf (rm p (j : Int))).map eK)) (lstK_py _) (lstK_py _) (lstK_shaped okb) (lstK_shaped okt) (lstK_eqv _ _) ⟨_, rfl, ?_⟩
              by_cases hkk : keysOf (rm p (i : Int)) = keysOf (rm p (j : Int))
              · rw [decide_eq_true hkk]
                refine ite2 (fun h => nomatch h) (fun _ => ?_)
                exact es_next ⟨m2, _, hs2.mks, fun _ h => h, fun _ h => .inl h, fun h => absurd hkk h, rfl⟩
              · rw [decide_eq_false hkk]
                refine ite2 (fun _ => ?_) (fun h => absurd rfl h)
                walk_at "e"
                refine ⟨[.int (i : Nat), .int (j : Nat)], rfl, (show 2 ≤ sizeLine by omega), _, Pu.d, ?_⟩
                refine o3_N (ke := pairE) (ev := T.int) (k := pk i j) (x := 1) (m := m2) 1 rfl (by omega) ?_
                exact ⟨putM m2 (pk i j) 1, _, hs2.mks.put hi hj (need_unlike hg hs2.mks hi hj (.inl hkk)) 1, fun q h => has_put.mpr (.inl h), fun q h => has_put.mp h, fun _ => has_put.mpr (.inr rfl), rfl⟩
            · rintro δ ⟨m3, x6, hm3, hsub3, hold3, hk3, rfl⟩
              refine es_forI (ei_L ?_)
              walk_at "e"
              refine ⟨fun u δ => ∃ (m4 : MK) (x6 : SV), Mks p m4 ∧ (∀ q, has m3 q → has m4 q) ∧ (∀ q, has m4 q → has m3 q ∨ q = pk i j) ∧ (∀ k ∈ (keysOf (rm p (i : Int))).take u, has m2 (via p i j k) → has m4 (pk i j)) ∧ δ = [.d (ePlan p), .own pm (.N pairE T.int m4), .d (.int m.length), .d (.int (i : Nat)), .d (.int (j : Nat)), .d (.lst ((keysOf (rm p (i : Int))).map eK)), x6], ⟨m3, _, hm3, fun _ h => h, fun _ h => .inl h, by simp, rfl⟩, fun _ _ _ => trivial, ?_, ?_⟩
              · rintro u t δ htu ⟨m4, x6, hm4, hsub4, hold4, hk4, rfl⟩
                rw [List.getElem?_map] at htu
                obtain ⟨kk, hkk, rfl⟩ := Option.map_eq_some_iff.mp htu
                have hm4l := hm4.len
                have hkm := List.mem_of_getElem? hkk
                refine gt_name all_in ?_
                refine es_if (et_val (ev_op (ev_tup (ea_cons (ev_callPn ?_)))))
                walk_at "e"
                refine uix_L LstV.d hati ⟨_, Pu.d, ?_⟩
                walk_at "e"
                refine ⟨[eRoom (rm p (i : Int)), eK kk], rfl, _, kk, hok _ hri, okb _ hkm, rfl, ?_⟩
                refine ⟨_, Pu.d, ea_cons (ev_callPn ?_)⟩
                walk_at "e"
                refine uix_L LstV.d hatj ⟨_, Pu.d, ?_⟩
                walk_at "e"
                refine ⟨[eRoom (rm p (j : Int)), eK kk], rfl, _, kk, hok _ hrj, okb _ hkm, rfl, ?_⟩
                have eopt : ∀ o : Option Int, optT o = optE o := fun o => by cases o <;> rfl
                refine ⟨_, Pu.d, ea_nil ⟨[optT (getM (ways (rm p (i : Int))) kk), optT (getM (ways (rm p (j : Int))) kk)], rfl, (show 2 ≤ sizeLine by omega), _, Pu.d, ?_⟩⟩
                rw [eopt, eopt]
                walk_at "e"
                refine uin_N (ke := pairE) (ev := T.int) (k := via p i j kk) (m := m4) (DctV.o ⟨1, .inl rfl⟩) ⟨_, rfl, ?_⟩
                by_cases hv : has m4 (via p i j kk)
                · have hv' : (getM m4 (via p i j kk)).isSome = true := hv
                  rw [hv']
                  refine ite2 (fun _ => ?_) (fun h => absurd rfl h)
                  walk_at "e"
                  refine ⟨[.int (i : Nat), .int (j : Nat)], rfl, (show 2 ≤ sizeLine by omega), _, Pu.d, ?_⟩
                  refine o3_N (ke := pairE) (ev := T.int) (k := pk i j) (x := 1) (m := m4) 1 rfl (by omega) ?_
                  exact ⟨putM m4 (pk i j) 1, _, hm4.put hi hj (need_unlike hg hm4 hi hj (.inr ⟨kk, hkm, hv⟩)) 1, fun q h => has_put.mpr (.inl (hsub4 q h)), fun q h => (has_put.mp h).elim (hold4 q) .inr, fun _ _ _ => has_put.mpr (.inr rfl), rfl⟩
                · have hv' : (getM m4 (via p i j kk)).isSome = false := by simpa [has] using hv
                  rw [hv']
                  refine ite2 (fun h => nomatch h) (fun _ => ?_)
                  refine es_next ⟨m4, _, hm4, hsub4, hold4, fun k hk h2 => ?_, rfl⟩
                  rw [List.take_add_one, hkk] at hk
                  rcases List.mem_append.mp hk with hk | hk
                  · exact hk4 k hk h2
                  · simp at hk
                    subst hk
                    exact absurd (hsub4 _ (hsub3 _ h2)) hv
              · rintro δ ⟨m4, x6, hm4, hsub4, hold4, hk4, rfl⟩
                rw [List.length_map, List.take_length] at hk4
                refine ⟨m4, _, _, _, ⟨hm4, fun q h => hsub4 q (hsub3 q (hs2.sub q h)), fun b t hb ht hh n => ?_⟩, rfl⟩
                by_cases e : b = i ∧ t = j
                · obtain ⟨rfl, rfl⟩ := e
                  rcases n with n | ⟨k, hk, n⟩
                  · exact hsub4 _ (hk3 n)
                  · exact hk4 k hk (hs2.sub _ n)
                · exact hsub4 _ (hsub3 _ (hs2.cl b t hb ht (by omega) n))
          · rintro δ ⟨m2, x4, x5, x6, hs2, rfl⟩
            simp only [List.length_map, List.length_range] at hs2
            exact ⟨m2, _, _, _, _, ⟨hs2.mks, hs2.sub, fun b t hb ht hh n => hs2.cl b t hb ht (by omega) n⟩, rfl⟩
        · rintro δ ⟨m1, x3, x4, x5, x6, hs1, rfl⟩
          simp only [List.length_map, List.length_range] at hs1
          exact ⟨_, by omega, m1, m.length, _, _, _, _, hs1.mks, .inr ⟨m, rfl, hm, hs1.mks, hs1.sub, fun b t hb ht _ n => hs1.cl b t hb ht hb n⟩, rfl, rfl⟩
      · have h : ¬ many < (m.length : Int) := by simpa using h
        rcases hmany with ⟨rfl, rfl⟩ | ⟨m0, rfl, hm0, hs⟩
        · simp at h
        · exact ⟨m, _, _, _, _, _, marks_full hg hm (sweep_end hm0 hs (by omega)), rfl⟩
    · rintro δ ⟨m, x2, x3, x4, x5, x6, hmk, rfl⟩
      refine es_ret (ev_take (i := 1) rfl ?_)
      exact hk m hmk
end
end K

namespace K
open PySem L2 DL
local macro_rules | `(tactic| walk_at "dl") => `(tactic| with_reducible first
  | refine es_if ?_ | refine es_append ?_ | refine es_sub ?_ | refine es_par3 ?_ | refine es_parD ?_ | refine es_asg ?_ | refine es_ret ?_ | refine es_retN ?_ | refine es_next ?_ | refine es_drop ?_ | refine es_break ?_ | refine es_cont ?_
  | refine et_val ?_ | refine et_B ?_ | refine et_not ?_ | refine et_and ?_ | refine et_or ?_ | refine et_yes ?_
  | refine ev_op ?_ | refine ev_un ?_ | refine ev_cb ?_ | refine ev_tup ?_ | refine ev_lst ?_ | refine ev_ifx ?_ | refine ev_andV ?_ | refine ev_orV ?_ | refine ev_notV ?_ | refine ev_sl ?_
  | refine ea_cons ?_ | refine ea_nil ?_ | refine ev_int ?_ | refine ev_str ?_ | refine ev_bl ?_ | refine ev_non ?_ | refine eo_none ?_ | refine eo_some ?_
  | refine gts_cons ?_ | refine gts_nil ?_
  | refine o2_addI ?_ | refine o2_ltI ?_ | refine o2_leI ?_ | refine o2_gtI ?_ | refine o2_geI ?_ | refine o2_ltS ?_ | refine o2_leS ?_ | refine o2_gtS ?_ | refine o2_sub ?_
  | refine oa_intI ?_ | refine oa_intB ?_ | refine oa_abs ?_ | refine oa_two ?_ | refine ulen_R ?_ | refine ulen_T ?_ | refine ulen_L LstV.d ?_
  | (refine ⟨_, Pu.d, ?_⟩) | (refine ⟨_, Pu.ptr, ?_⟩) | (refine ⟨_, Pu.fr, ?_⟩))
local macro_rules | `(tactic| walk_at "dv") => `(tactic| first
  | refine ev_var (by rfl) ?_ | refine ev_ptr (.inl (by rfl)) ?_ | refine ev_ptr (.inr (.inl (by rfl))) ?_ | refine ev_ptr (.inr (.inr (by rfl))) ?_
  | refine uix_L (LstV.o ⟨0, .inr (by rfl)⟩) (by rfl) ?_ | refine uix_L LstV.d (by rfl) ?_ | refine uix_T (by rfl) ?_
  | refine gt_tup (by rfl) ?_ | refine gt_name (by first | exact all_in | simp) ?_ | refine ⟨_, rfl, ?_⟩)
local macro_rules | `(tactic| walk_at "e") => `(tactic| repeat (first | walk_at "dl" | walk_at "dv"))
local macro_rules | `(tactic| walk_at "d") => `(tactic| repeat (first | with_reducible refine es_seq ?_ | walk_at "dl" | walk_at "dv"))
section
variable {P : Program} {w : World} {K : PySem.W.Frag} {mg : Str → Option Value} {base : Heap}
abbrev s_law_least_plan : Stmt := topS 38
abbrev N_law_least_plan : List Str := ["plan", "marked", "order", "found", "turn", "path", "key", "goal", "place", "rank", "room"]
theorem sc_law_least_plan : FnScope N_law_least_plan ["plan"] (defScope s_law_least_plan) := ⟨rfl, rfl, rfl, by decide +kernel, rfl, by decide +kernel, by decide +kernel⟩

def SLeastPlan : List T → (RT → Prop) → Prop := fun ts P => ∃ p : Plan, GoodPlan p ∧ p ≠ [] ∧ p.length ≤ 200 ∧ ts = [ePlan p] ∧ ∀ q : Plan, IsLeast p q → q.length ≤ p.length → P (.new (.lst (q.map eRoom)))
theorem addR_same {gs re : List Int} {r : Int} (h : gAt gs r ∈ re.map (gAt gs)) : addR gs re r = re := if_pos h
theorem addR_new {gs re : List Int} {r : Int} (h : gAt gs r ∉ re.map (gAt gs)) : addR gs re r = re ++ [r] := if_neg h
theorem posB_pre {gs re zs : List Int} {g : Int} (h : g ∈ re.map (gAt gs)) : posB gs (re ++ zs) g = posB gs re g := by
  unfold posB
  rw [List.map_append, List.idxOf_append, if_pos h]
theorem addRs_pre (gs : List Int) : ∀ (js re : List Int), ∃ zs, js.foldl (addR gs) re = re ++ zs
  | [], re => ⟨[], by simp⟩
  | j :: js, re => by
    rw [List.foldl_cons]
    obtain ⟨zs, h⟩ := addRs_pre gs js (addR gs re j)
    unfold addR at h ⊢
    split at h
    · rename_i hi; rw [if_pos hi]; exact ⟨zs, h⟩
    · rename_i hi; rw [if_neg hi]; exact ⟨j :: zs, by rw [h]; simp⟩
theorem posB_new {gs re : List Int} {r : Int} (h : gAt gs r ∉ re.map (gAt gs)) : posB gs (re ++ [r]) (gAt gs r) = re.length := by
  unfold posB
  rw [List.map_append, List.idxOf_append, if_neg h]
  simp
/-- found so far: the rooms below i, told by what is reached -/
def foundTo (p : Plan) (gs re : List Int) (i : Nat) : Plan := (re.take i).map fun r => (rm p r).map (setG fun j => posB gs re (gAt gs j))
theorem foundTo_pre {p : Plan} {gs re zs : List Int} {i : Nat} (hi : i ≤ re.length) (hin : ∀ k < i, ∀ r, re[k]? = some r → ∀ j ∈ goals (rm p r), gAt gs j ∈ re.map (gAt gs)) : foundTo p gs (re ++ zs) i = foundTo p gs re i := by
  unfold foundTo
  rw [List.take_append_of_le_length hi]
  refine List.map_congr_left fun r hr => List.map_congr_left fun s hs => ?_
  obtain ⟨k, hk, rfl⟩ := List.getElem_of_mem hr
  rw [List.length_take] at hk
  unfold setG
  have := hin k (by omega) ((re.take i)[k]'(by rw [List.length_take]; exact hk)) (by rw [List.getElem_take]; simp) (goalOf s) (List.mem_map_of_mem hs)
  dsimp only
  rw [posB_pre this]
theorem BI.has_lt {p : Plan} {gs re : List Int} {i : Nat} (h : BI p gs re i) {k : Nat} (hk : k < i) {r j : Int} (hr : re[k]? = some r) (hj : j ∈ goals (rm p r)) : gAt gs j ∈ re.map (gAt gs) := by
  rw [h.eq, dB_map, mem_dst]
  refine List.mem_map_of_mem (List.mem_cons_of_mem _ (List.mem_flatMap.mpr ⟨r, ?_, hj⟩))
  refine List.mem_of_getElem? (i := k) ?_
  rw [List.getElem?_take_of_lt hk]; exact hr
theorem rm_ordered {p : Plan} {j : Int} (h0 : 0 ≤ j) (h1 : j < p.length) : rm (ordered p) j = srt (rm p j) := by
  have : j.toNat < p.length := by omega
  unfold rm ordered
  simp [this]
theorem ok_least_plan {f : Addr} {fd : FuncData} (Fn : Fun K "_law_least_plan" "_law_least_plan" s_law_least_plan f fd) (TX : TXF mg) (C_law_keys : Cal P w K mg base CX0 "_law_keys" 1 ["steps_here"] (spP ⟨P, w, K⟩ SKeys)) (C_law_goal : Cal P w K mg base CX0 "_law_goal" 1 ["steps_here", "key"] (spP ⟨P, w, K⟩ SGoal)) (C_law_parted : Cal P w K mg base CX0 "_law_parted" 2 ["plan"] (spP ⟨P, w, K⟩ SParted)) : FnOk P w K mg base CX0 3 f fd ["plan"] (spP ⟨P, w, K⟩ SLeastPlan) := by
  refine Fn.ok sc_law_least_plan (fun vs H Q E h => ?_) (fun cdv A outer s H vs Q E hr h => ?_)
  · obtain ⟨F, ts, _, hd, P, ⟨_, _, _, _, rfl, _⟩, _⟩ := h
    rw [hd.length]; rfl
  · obtain ⟨F, ts, fh, hd, PP, ⟨p, hg, hp0, hpl, rfl, hk⟩, q⟩ := h
    have hu := hr.units
    have hz9 : (40001 : Nat) < sizeLine := by decide +kernel
    have hok : ∀ r ∈ p, ∀ s ∈ r, okS s := fun r hr s hs => ((hg.2 r hr).2.1 s hs).ok
    have ht := ordered_tgt hg
    have h0' : ordered p ≠ [] := fun e => hp0 (List.map_eq_nil_iff.mp e)
    have hks := keySame_of klt_asymm (ordered_nodk hg) (ordered_sorted hg)
    have hol := ordered_len p
    -- the groups: by rooms with the same rows
    have hrows : ∀ i j : Nat, Same (ordered p) i (ordered p) j ↔ Same p i p j := fun i j => by
      have e : ∀ (i : Nat) (ks : List K3), goRow (ordered p) i ks = goRow p i ks := fun i ks => row_perm (fun r _ => srt_perm r) (fun r hr => (hg.2 r hr).2.2) ks i
      unfold Same
      simp only [e]
    have hgs1 := repGs_stable ht (ordered_nodk hg) hks
    have hgs2 := repGs_coarse (ordered p)
    have hiff : ∀ i j : Int, 0 ≤ i → i < p.length → 0 ≤ j → j < p.length → (gAt (repGs (ordered p)) i = gAt (repGs (ordered p)) j ↔ Same p i.toNat p j.toNat) := fun i j i0 i1 j0 j1 => by
      rw [repGs_iff i0 (by omega) j0 (by omega), hrows]
    generalize repGs (ordered p) = gs at hgs1 hgs2 hiff
    refine ⟨_, (pss_cons (ps_par3 (i := 1) (j := 2) (l := 3) (by rfl) sc_law_least_plan.nd rfl rfl rfl (by decide) (by decide) (by decide) rfl rfl rfl (pa_cons (pe_call C_law_parted.ok (hr.mono (by decide)) (by rfl) C_law_parted.mg C_law_parted.kp C_law_parted.bd .nil pass0 (pa_cons (pv 0) pa_nil)) (pa_cons (pe_lst (pa_cons pe_int pa_nil)) (pa_cons (pe_lst pa_nil) pa_nil))) (by rfl))
    (pss_cons (ps_for PassesOwn.never rfl (pi_range1 (by rfl) TX.n_range (pa_cons (pe_callB (call_lenB ⟨P, w, K⟩ rfl hu) (by rfl) TX.n_len (by decide +kernel) (pa_cons (pv 0) pa_nil)) pa_nil)) (pg_name (i := 4) sc_law_least_plan.nd rfl (Or.inl rfl)) (pss_one (ps_if (pt_cmpR op_uLt (pv 4) (pe_callB (call_lenB ⟨P, w, K⟩ rfl hu) (by rfl) TX.n_len (by decide +kernel) (pa_cons (pv 2) pa_nil)) (nomark _)) (pss_cons (ps_set (i := 5) sc_law_least_plan.nd rfl (Or.inl rfl) (pe_lst pa_nil))
    (pss_cons (ps_for PassesOwn.never rfl (pi_listB ⟨P, w, K⟩ rfl (pe_call C_law_keys.ok (hr.mono (by decide)) (by rfl) C_law_keys.mg C_law_keys.kp C_law_keys.bd .nil pass0 (pa_cons (pe_ix (ix_B ⟨P, w, K⟩ rfl hu) (pv 0) (pe_ix (ix_B ⟨P, w, K⟩ rfl hu) (pv 2) (pv 4) (fun _ _ => rfl)) (fun _ _ => rfl)) pa_nil))) (pg_name (i := 6) sc_law_least_plan.nd rfl (Or.inl rfl)) (pss_cons (ps_par (i := 7) (j := 8) (by rfl) sc_law_least_plan.nd rfl rfl (by decide) rfl rfl (pa_cons (pe_call C_law_goal.ok (hr.mono (by decide)) (by rfl) C_law_goal.mg C_law_goal.kp C_law_goal.bd .nil pass0 (pa_cons (pe_ix (ix_B ⟨P, w, K⟩ rfl hu) (pv 0) (pe_ix (ix_B ⟨P, w, K⟩ rfl hu) (pv 2) (pv 4) (fun _ _ => rfl)) (fun _ _ => rfl)) (pa_cons (pv 6) pa_nil))) (pa_cons pe_non pa_nil)) (by rfl))
    (pss_cons (ps_for PassesOwn.never rfl (pi_enum (by rfl) TX.n_enumerate (pa_cons (pv 2) pa_nil)) (pg_tupB ⟨P, w, K⟩ rfl 2 rfl (pgs_cons (pg_name (i := 9) sc_law_least_plan.nd rfl (Or.inl rfl)) (pgs_cons (pg_name (i := 10) sc_law_least_plan.nd rfl (Or.inl rfl)) pgs_nil))) (pss_one (ps_if (pt_cmpR (op_notInB ⟨P, w, K⟩ rfl hu) (pe_tup (pa_cons (pv 10) (pa_cons (pv 7) pa_nil))) (pv 1) (by with_unfolding_all rfl)) (pss_one (ps_set (i := 8) sc_law_least_plan.nd rfl (Or.inl rfl) (pv 9))) pss_nil)))
    (pss_cons (ps_if (pt_cmpR op_isN (pv 8) pe_non (nomark _)) (pss_cons (ps_set (i := 8) sc_law_least_plan.nd rfl (Or.inl rfl) (pe_callB (call_lenB ⟨P, w, K⟩ rfl hu) (by rfl) TX.n_len (by decide +kernel) (pa_cons (pv 2) pa_nil)))
    (pss_one (ps_expr (pe_bm PySem.F.plainAttrs_list PySem.F.slot_list_append PySem.F.type_list_append mt_append (pv 2) (pa_cons (pv 7) pa_nil))))) pss_nil)
    (pss_one (ps_expr (pe_bm PySem.F.plainAttrs_list PySem.F.slot_list_append PySem.F.type_list_append mt_append (pv 5) (pa_cons (pe_tup (pa_cons (pe_ix (ix_B ⟨P, w, K⟩ rfl hu) (pv 6) pe_int (fun _ _ => rfl)) (pa_cons (pe_ix (ix_B ⟨P, w, K⟩ rfl hu) (pv 6) pe_int (fun _ _ => rfl)) (pa_cons (pe_ix (ix_B ⟨P, w, K⟩ rfl hu) (pv 6) pe_int (fun _ _ => rfl)) (pa_cons (pv 8) pa_nil))))) pa_nil))))))))
    (pss_one (ps_expr (pe_bm PySem.F.plainAttrs_list PySem.F.slot_list_append PySem.F.type_list_append mt_append (pv 3) (pa_cons (pv 5) pa_nil)))))) pss_nil)))
    (pss_one (ps_ret (pv 3))))), ?_⟩
    refine run_P (n := 10) fh hd rfl q ?_
    dsimp only [cxOf]
    refine es_seq ?_
    refine es_par3G (by decide) (by decide) (by decide) (ea_consK (ev_callPn ?_))
    walk_at "e"
    refine ⟨[ePlan p], rfl, p, hg, hpl, rfl, fun m hm pm => ⟨_, _, rfl, ?_⟩⟩
    refine ea_consK (ev_lst (ea_cons (ev_int ⟨_, Pu.d, ea_nil ⟨[.int 0], rfl, (show 1 ≤ sizeLine by omega), fun po => ⟨_, _, rfl, ?_⟩⟩⟩)))
    refine ea_consK (ev_lst (ea_nil ⟨[], rfl, by decide, fun pf => ⟨_, _, rfl, ea_nil ⟨_, _, _, rfl, .own, .own, .own, ?_⟩⟩⟩))
    refine es_seqJ (fun δ => ∃ (re : List Int) (x4 x5 x6 x7 x8 x9 x10 : SV), BI (ordered p) gs re re.length ∧ δ = [.d (ePlan p), .own pm (.N pairE T.int m), .own po (.lst (re.map T.int)), .own pf (.lst ((foundTo (ordered p) gs re re.length).map eRoom)), x4, x5, x6, x7, x8, x9, x10]) ?_ ?_
    · refine es_forI (ei_R (ea_cons (ev_cb ?_)))
      walk_at "e"
      refine ⟨by rw [List.length_map]; omega, fun i δ => ∃ (re : List Int) (k : Nat) (x4 x5 x6 x7 x8 x9 x10 : SV), BI (ordered p) gs re k ∧ (k = i ∨ (k = re.length ∧ k < i)) ∧ δ = [.d (ePlan p), .own pm (.N pairE T.int m), .own po (.lst (re.map T.int)), .own pf (.lst ((foundTo (ordered p) gs re k).map eRoom)), x4, x5, x6, x7, x8, x9, x10], ⟨[0], 0, _, _, _, _, _, _, _, BI.start _ _, .inl rfl, rfl⟩, fun _ _ _ => trivial, ?_, ?_⟩
      · rintro i t δ hti ⟨re, k, x4, x5, x6, x7, x8, x9, x10, hb, hki, rfl⟩
        obtain ⟨hi, et⟩ := List.getElem?_eq_some_iff.mp hti
        simp only [List.length_map, List.length_range] at hi
        have et : t = .int (i : Nat) := by simpa using et.symm
        subst et
        have hrl := hb.len ht h0'
        have hle := hb.le
        refine gt_name all_in ?_
        refine es_if (et_val (ev_op (ev_var (by rfl) ⟨_, Pu.d, ev_cb ?_⟩)))
        walk_at "e"
        refine ulen_L (LstV.o ⟨2, .inl rfl⟩) ⟨_, Pu.d, ?_⟩
        walk_at "e"
        refine ite2 (fun h => ?_) (fun h => ?_)
        · have hir : i < re.length := by simpa using h
          have hk' : k = i := by omega
          subst hk'
          have hr0 := hb.range ht h0' re[k] (List.getElem_mem hir)
          rw [hol] at hr0
          obtain ⟨hnx, _⟩ := hb.next hir
          have hnl := hnx.len ht h0'
          have hnr := hnx.range ht h0'
          have hnd := hnx.nodup
          have hro := rm_ordered (p := p) hr0.1 hr0.2
          have hrmem := rm_mem (p := p) hr0.1 hr0.2
          have hnk := (hg.2 _ hrmem).2.2
          have hrz := (hg.2 _ hrmem).1
          have hkeys : (rm (ordered p) re[k]).map kyOf = keysOf (rm p re[k]) := by rw [hro]; exact keysOf_srt hnk
          have hlenk : (rm (ordered p) re[k]).length = (keysOf (rm p re[k])).length := by rw [← hkeys, List.length_map]
          have hway : ∀ s ∈ rm (ordered p) re[k], getM (ways (rm p re[k])) (kyOf s) = some (goalOf s) := fun s hs => by
            rw [hro] at hs
            exact (way_iff hnk _ _).mpr ⟨s, (srt_perm _).mem_iff.mp hs, rfl, rfl⟩
          have hgin : ∀ s ∈ rm (ordered p) re[k], 0 ≤ goalOf s ∧ goalOf s < p.length := fun s hs => by
            have := goals_in ht (by exact hr0.1) (by rw [hol]; exact hr0.2) (List.mem_map_of_mem (f := goalOf) hs)
            rw [hol] at this; exact this
          have hatr : atI (re.map T.int) (k : Int) = some (.int re[k]) := atI_nat (by simp [hir])
          have okkeys := okK_keys (hok _ hrmem)
          have hre0 : ∀ r ∈ re, 0 ≤ r ∧ r < p.length := fun r hr => by have := hb.range ht h0' r hr; rw [hol] at this; exact this
          refine es_seq ?_
          walk_at "e"
          refine ⟨[], rfl, by decide, fun pp => ?_⟩
          refine gt_name all_in ?_
          refine es_seqJ (fun δ => ∃ (x6 x7 x8 x9 x10 : SV), δ = [.d (ePlan p), .own pm (.N pairE T.int m), .own po (.lst (((goals (rm (ordered p) re[k])).foldl (addR gs) re).map T.int)), .own pf (.lst ((foundTo (ordered p) gs re k).map eRoom)), .d (.int (k : Nat)), .own pp (.lst (((rm (ordered p) re[k]).map (setG fun j => posB gs ((goals (rm (ordered p) re[k])).foldl (addR gs) re) (gAt gs j))).map eS)), x6, x7, x8, x9, x10]) ?_ ?_
          · refine es_forI (ei_L (ev_callPn (ea_cons (ev_op ?_))))
            walk_at "e"
            refine uix_L (LstV.o ⟨2, .inl rfl⟩) hatr ⟨_, Pu.d, ?_⟩
            refine uix_L LstV.d (rm_at hr0.1 hr0.2) ⟨_, Pu.d, ea_nil ?_⟩
            refine ⟨[eRoom (rm p re[k])], rfl, _, hrz, rfl, fun p1 => ?_⟩
            refine ⟨(keysOf (rm p re[k])).map eK, Pu.fr, ?_⟩
            refine ⟨fun u δ => ∃ (x6 x7 x8 x9 x10 : SV), δ = [.d (ePlan p), .own pm (.N pairE T.int m), .own po (.lst (((goals ((rm (ordered p) re[k]).take u)).foldl (addR gs) re).map T.int)), .own pf (.lst ((foundTo (ordered p) gs re k).map eRoom)), .d (.int (k : Nat)), .own pp (.lst ((((rm (ordered p) re[k]).take u).map (setG fun j => posB gs ((goals ((rm (ordered p) re[k]).take u)).foldl (addR gs) re) (gAt gs j))).map eS)), x6, x7, x8, x9, x10], ⟨_, _, _, _, _, rfl⟩, fun _ _ _ => trivial, ?_, ?_⟩
            · rintro u t δ htu ⟨x6, x7, x8, x9, x10, rfl⟩
              rw [List.getElem?_map] at htu
              obtain ⟨kk, hkk, rfl⟩ := Option.map_eq_some_iff.mp htu
              have hul : u < (rm (ordered p) re[k]).length := by rw [hlenk]; exact (List.getElem?_eq_some_iff.mp hkk).1
              have hsu : (rm (ordered p) re[k])[u]? = some (rm (ordered p) re[k])[u] := List.getElem?_eq_getElem hul
              have hsm := List.getElem_mem hul
              have hku : kyOf (rm (ordered p) re[k])[u] = kk := by
                have : ((rm (ordered p) re[k]).map kyOf)[u]? = some kk := by rw [hkeys]; exact hkk
                rw [List.getElem?_map, hsu] at this
                simpa using this
              have hwu := hway _ hsm
              rw [hku] at hwu
              have hgu := hgin _ hsm
              have hokk := okkeys kk (List.mem_of_getElem? hkk)
              have htk : goals ((rm (ordered p) re[k]).take (u + 1)) = goals ((rm (ordered p) re[k]).take u) ++ [goalOf (rm (ordered p) re[k])[u]] := by
                unfold goals; rw [List.take_add_one, hsu, List.map_append]; rfl
              have hstep : (goals ((rm (ordered p) re[k]).take (u + 1))).foldl (addR gs) re = addR gs ((goals ((rm (ordered p) re[k]).take u)).foldl (addR gs) re) (goalOf (rm (ordered p) re[k])[u]) := by
                rw [htk, List.foldl_append]; rfl
              have hrt : ((rm (ordered p) re[k]).take (u + 1)) = ((rm (ordered p) re[k]).take u) ++ [(rm (ordered p) re[k])[u]] := by rw [List.take_add_one, hsu]; rfl
              -- what is reached there
              obtain ⟨zz, hzz⟩ : ∃ zz, (goals (rm (ordered p) re[k])).foldl (addR gs) re = (goals ((rm (ordered p) re[k]).take u)).foldl (addR gs) re ++ zz := by
                have e1 : goals (rm (ordered p) re[k]) = goals ((rm (ordered p) re[k]).take u) ++ goals ((rm (ordered p) re[k]).drop u) := by
                  unfold goals; rw [← List.map_append, List.take_append_drop]
                rw [e1, List.foldl_append]
                exact addRs_pre gs _ _
              have hug : ∀ s ∈ (rm (ordered p) re[k]).take u, gAt gs (goalOf s) ∈ ((goals ((rm (ordered p) re[k]).take u)).foldl (addR gs) re).map (gAt gs) := by
                intro s hs
                have key : ∀ (js re : List Int) (j : Int), j ∈ js → gAt gs j ∈ (js.foldl (addR gs) re).map (gAt gs) := by
                  intro js
                  induction js with
                  | nil => intro re j h; cases h
                  | cons a js ih =>
                    intro re j hj
                    rw [List.foldl_cons]
                    rcases List.mem_cons.mp hj with e | hj
                    · subst e
                      obtain ⟨ws, hw⟩ := addRs_pre gs js (addR gs re j)
                      rw [hw, List.map_append]
                      refine List.mem_append_left _ ?_
                      unfold addR
                      split
                      · assumption
                      · simp
                    · exact ih _ _ hj
                exact key _ _ _ (List.mem_map_of_mem hs)
              have hur : ∀ r ∈ (goals ((rm (ordered p) re[k]).take u)).foldl (addR gs) re, 0 ≤ r ∧ r < p.length := fun r hr => by
                have := hnr r (by rw [hzz]; exact List.mem_append_left _ hr)
                rw [hol] at this; exact this
              have hund : (((goals ((rm (ordered p) re[k]).take u)).foldl (addR gs) re).map (gAt gs)).Nodup := by
                rw [hzz, List.map_append] at hnd
                exact (List.nodup_append.mp hnd).1
              have hupre : ∃ ws, (goals ((rm (ordered p) re[k]).take u)).foldl (addR gs) re = re ++ ws := addRs_pre gs _ _
              have hulen : ((goals ((rm (ordered p) re[k]).take u)).foldl (addR gs) re).length ≤ 200 := by
                have := congrArg List.length hzz
                rw [List.length_append] at this
                omega
              generalize (goals ((rm (ordered p) re[k]).take u)).foldl (addR gs) re = ur at hstep hug hur hund hulen hupre
              generalize hst : (rm (ordered p) re[k])[u] = st at hku hwu hgu hstep hrt
              obtain ⟨s1, s2, s3, s4⟩ := st
              have hku : (s1, s2, s3) = kk := hku
              subst hku
              have hwu : getM (ways (rm p re[k])) (s1, s2, s3) = some s4 := hwu
              have hg0 : 0 ≤ s4 := hgu.1
              have hg1 : s4 < p.length := hgu.2
              refine gt_name all_in ?_
              refine es_seq ?_
              refine es_parG (by decide) (ea_cons (ev_callPn (ea_cons (ev_op ?_))))
              walk_at "e"
              obtain ⟨ws, hws⟩ := hupre
              have hkur : k < ur.length := by rw [hws, List.length_append]; omega
              have hurk : atI (ur.map T.int) (k : Int) = some (.int re[k]) := atI_nat (by rw [List.getElem?_map, hws, List.getElem?_append_left hir]; simp)
              refine uix_L (LstV.o ⟨2, .inl rfl⟩) hurk ⟨_, Pu.d, ?_⟩
              refine uix_L LstV.d (rm_at hr0.1 hr0.2) ⟨_, Pu.d, ?_⟩
              walk_at "e"
              refine ⟨[eRoom (rm p re[k]), eK (s1, s2, s3)], rfl, _, _, hok _ hrmem, hokk, rfl, ?_⟩
              rw [hwu]
              refine ⟨_, Pu.d, ea_cons (ev_non ⟨_, Pu.d, ea_nil ⟨_, _, rfl, .d, .d, ?_⟩⟩)⟩
              -- the rank of a room that is alike
              have hsame : ∀ r ∈ ur, (has m (some r, some s4) ↔ ¬ gAt gs r = gAt gs s4) := fun r hr => by
                have hr1 := hur r hr
                have e := hm r.toNat s4.toNat (by omega) (by omega)
                have e2 : pk r.toNat s4.toNat = (some r, some s4) := by unfold pk; rw [Int.toNat_of_nonneg hr1.1, Int.toNat_of_nonneg hg0]
                rw [e2] at e
                rw [e, hiff r s4 hr1.1 hr1.2 hg0 hg1]
              refine es_seqJ (fun δ => ∃ (x9 x10 : SV), δ = [.d (ePlan p), .own pm (.N pairE T.int m), .own po (.lst (ur.map T.int)), .own pf (.lst ((foundTo (ordered p) gs re k).map eRoom)), .d (.int (k : Nat)), .own pp (.lst ((((rm (ordered p) re[k]).take u).map (setG fun j => posB gs ur (gAt gs j))).map eS)), .d (eK (s1, s2, s3)), .d (.int s4), .d (optE (if gAt gs s4 ∈ ur.map (gAt gs) then some (posB gs ur (gAt gs s4)) else none)), x9, x10]) ?_ ?_
              · refine es_forI (ei_EO ?_)
                walk_at "e"
                refine ⟨po, ur.map T.int, rfl, ⟨2, .inl rfl⟩, fun v δ => ∃ (x9 x10 : SV), δ = [.d (ePlan p), .own pm (.N pairE T.int m), .own po (.lst (ur.map T.int)), .own pf (.lst ((foundTo (ordered p) gs re k).map eRoom)), .d (.int (k : Nat)), .own pp (.lst ((((rm (ordered p) re[k]).take u).map (setG fun j => posB gs ur (gAt gs j))).map eS)), .d (eK (s1, s2, s3)), .d (.int s4), .d (optE (if gAt gs s4 ∈ (ur.take v).map (gAt gs) then some (posB gs ur (gAt gs s4)) else none)), x9, x10], ⟨x9, x10, by rw [show (if gAt gs s4 ∈ (ur.take 0).map (gAt gs) then some (posB gs ur (gAt gs s4)) else none) = (none : Option Int) from if_neg (by simp)]; rfl⟩, fun v δ ⟨_, _, e⟩ => by rw [e]; exact ⟨2, .inl rfl⟩, ?_, ?_⟩
                · rintro v t δ htv ⟨x9, x10, rfl⟩
                  obtain ⟨tu, htu2, rfl⟩ := enumT_get htv
                  rw [List.getElem?_map] at htu2
                  obtain ⟨r, hrv, rfl⟩ := Option.map_eq_some_iff.mp htu2
                  have hrm := List.mem_of_getElem? hrv
                  have hvl := (List.getElem?_eq_some_iff.mp hrv).1
                  have htkv : (ur.take (v + 1)).map (gAt gs) = (ur.take v).map (gAt gs) ++ [gAt gs r] := by rw [List.take_add_one, hrv]; simp
                  walk_at "d"
                  refine ⟨[.int r, .int s4], rfl, (show 2 ≤ sizeLine by omega), _, Pu.d, ?_⟩
                  walk_at "d"
                  refine uni_N (ke := pairE) (ev := T.int) (k := (some r, some s4)) (m := m) (DctV.o ⟨1, .inl rfl⟩) ⟨_, rfl, ?_⟩
                  by_cases hv : gAt gs r = gAt gs s4
                  · have hno : (getM m (some r, some s4)).isSome = false := by
                      have : ¬ has m (some r, some s4) := fun q => (hsame r hrm).mp q hv
                      simpa [has] using this
                    rw [hno]
                    refine ite2 (fun _ => ?_) (fun h => absurd rfl h)
                    walk_at "d"
                    have hpos : posB gs ur (gAt gs s4) = (v : Nat) := by
                      unfold posB
                      have e1 : (ur.map (gAt gs))[v]'(by simpa using hvl) = gAt gs s4 := by
                        rw [List.getElem_map, ← hv]
                        have := (List.getElem?_eq_some_iff.mp hrv).2
                        rw [this]
                      rw [← e1, hund.idxOf_getElem]
                    refine ⟨.d (.int (v : Nat)), .d (.int r), ?_⟩
                    rw [htkv, if_pos (show gAt gs s4 ∈ (ur.take v).map (gAt gs) ++ [gAt gs r] by rw [hv]; simp), hpos]
                    rfl
                  · have hyes : (getM m (some r, some s4)).isSome = true := (hsame r hrm).mpr hv
                    rw [hyes]
                    refine ite2 (fun h => nomatch h) (fun _ => ?_)
                    refine es_next ⟨.d (.int (v : Nat)), .d (.int r), ?_⟩
                    have e1 : (gAt gs s4 ∈ (ur.take (v + 1)).map (gAt gs)) = (gAt gs s4 ∈ (ur.take v).map (gAt gs)) := by
                      rw [htkv, List.mem_append, List.mem_singleton]
                      exact propext ⟨fun h => h.elim id fun z => absurd z.symm hv, .inl⟩
                    simp only [e1]
                    rfl
                · rintro δ ⟨x9, x10, rfl⟩
                  rw [enumT_len, List.length_map, List.take_length]
                  exact ⟨_, _, rfl⟩
              · rintro δ ⟨x9, x10, rfl⟩
                have hpath : ∀ zs : List Int, ((rm (ordered p) re[k]).take u).map (setG fun j => posB gs (ur ++ zs) (gAt gs j)) = ((rm (ordered p) re[k]).take u).map (setG fun j => posB gs ur (gAt gs j)) := fun zs => List.map_congr_left fun s hs => by
                  unfold setG
                  dsimp only
                  rw [posB_pre (hug s hs)]
                have hplen : ((((rm (ordered p) re[k]).take u).map (setG fun j => posB gs ur (gAt gs j))).map eS).length < sizeLine := by
                  rw [List.length_map, List.length_map, List.length_take]
                  have : (rm (ordered p) re[k]).length < sizeLine := by rw [hlenk, keysOf_len]; exact hrz
                  omega
                -- behind the test: the place
                refine es_seqJ (fun δ => ∃ (x9 x10 : SV), δ = [.d (ePlan p), .own pm (.N pairE T.int m), .own po (.lst ((addR gs ur s4).map T.int)), .own pf (.lst ((foundTo (ordered p) gs re k).map eRoom)), .d (.int (k : Nat)), .own pp (.lst ((((rm (ordered p) re[k]).take u).map (setG fun j => posB gs ur (gAt gs j))).map eS)), .d (eK (s1, s2, s3)), .d (.int s4), .d (.int (posB gs (addR gs ur s4) (gAt gs s4))), x9, x10]) ?_ ?_
                · by_cases hin : gAt gs s4 ∈ ur.map (gAt gs)
                  · rw [if_pos hin, addR_same hin]
                    refine es_if (et_val (ev_op (ev_var (by rfl) ⟨_, Pu.d, ev_non ⟨_, Pu.d, ?_⟩⟩)))
                    refine o2_isN (t := .int (posB gs ur (gAt gs s4))) (b := false) (fun B F v h => by rw [DV.int_ h]; rfl) ?_
                    refine ⟨_, rfl, ?_⟩
                    refine ite2 (fun h => nomatch h) (fun _ => ?_)
                    exact es_next ⟨_, _, rfl⟩
                  · rw [if_neg hin, addR_new hin, posB_new hin]
                    refine es_if (et_val (ev_op (ev_var (by rfl) ⟨_, Pu.d, ev_non ⟨_, Pu.d, ?_⟩⟩)))
                    refine o2_isN (t := .non) (b := true) (fun B F v h => by rw [DV.non_ h]; rfl) ?_
                    refine ⟨_, rfl, ?_⟩
                    refine ite2 (fun _ => ?_) (fun h => absurd rfl h)
                    walk_at "d"
                    refine ulen_L (LstV.o ⟨2, .inl rfl⟩) ?_
                    walk_at "d"
                    refine ⟨⟨_, 2, .inl rfl⟩, ?_⟩
                    walk_at "d"
                    refine appO 2 (ts := ur.map T.int) rfl (by rw [List.length_map]; omega) ?_
                    refine ⟨x9, x10, ?_⟩
                    rw [List.map_append, List.length_map]
                    rfl
                · rintro δ ⟨x9, x10, rfl⟩
                  refine es_append ?_
                  walk_at "e"
                  refine ⟨⟨_, 5, .inl rfl⟩, ?_⟩
                  walk_at "e"
                  refine ⟨[.str s1, .str s2, .str s3, .int (posB gs (addR gs ur s4) (gAt gs s4))], rfl, (show 4 ≤ sizeLine by omega), _, Pu.d, ?_⟩
                  refine appO 5 (ts := (((rm (ordered p) re[k]).take u).map (setG fun j => posB gs ur (gAt gs j))).map eS) rfl hplen ?_
                  refine ⟨.d (eK (s1, s2, s3)), .d (.int s4), .d (.int (posB gs (addR gs ur s4) (gAt gs s4))), x9, x10, ?_⟩
                  have hps : ((rm (ordered p) re[k]).take u).map (setG fun j => posB gs (addR gs ur s4) (gAt gs j)) = ((rm (ordered p) re[k]).take u).map (setG fun j => posB gs ur (gAt gs j)) := by
                    unfold addR
                    split
                    · rfl
                    · exact hpath _
                  have e1 : goalOf (s1, s2, s3, s4) = s4 := rfl
                  rw [hstep, e1, hrt, List.map_append, hps, List.map_append]
                  rfl
            · rintro δ ⟨x6, x7, x8, x9, x10, rfl⟩
              rw [List.length_map, ← hlenk, List.take_length]
              exact ⟨_, _, _, _, _, rfl⟩
          · rintro δ ⟨x6, x7, x8, x9, x10, rfl⟩
            refine es_frz (i := 5) rfl rfl ?_
            refine es_append ?_
            walk_at "e"
            refine ⟨⟨_, 3, .inl rfl⟩, ?_⟩
            walk_at "e"
            obtain ⟨zs, hzs⟩ := addRs_pre gs (goals (rm (ordered p) re[k])) re
            have hfl : ((foundTo (ordered p) gs re k).map eRoom).length < sizeLine := by
              unfold foundTo
              rw [List.length_map, List.length_map, List.length_take]; omega
            refine appO 3 (ts := (foundTo (ordered p) gs re k).map eRoom) rfl hfl ?_
            refine ⟨(goals (rm (ordered p) re[k])).foldl (addR gs) re, k + 1, .d (.int (k : Nat)), .d (eRoom ((rm (ordered p) re[k]).map (setG fun j => posB gs ((goals (rm (ordered p) re[k])).foldl (addR gs) re) (gAt gs j)))), x6, x7, x8, x9, x10, hnx, .inl rfl, ?_⟩
            have hf : foundTo (ordered p) gs ((goals (rm (ordered p) re[k])).foldl (addR gs) re) (k + 1) = foundTo (ordered p) gs re k ++ [(rm (ordered p) re[k]).map (setG fun j => posB gs ((goals (rm (ordered p) re[k])).foldl (addR gs) re) (gAt gs j))] := by
              have h1 : foundTo (ordered p) gs ((goals (rm (ordered p) re[k])).foldl (addR gs) re) k = foundTo (ordered p) gs re k := by
                rw [hzs]
                exact foundTo_pre (by omega) fun k' hk' r hr j hj => hb.has_lt hk' hr hj
              rw [← h1]
              unfold foundTo
              rw [List.take_add_one]
              have : ((goals (rm (ordered p) re[k])).foldl (addR gs) re)[k]? = some re[k] := by rw [hzs, List.getElem?_append_left hir]; simp
              rw [this]
              simp
            rw [hf, List.map_append]
            rfl
        · have hir : ¬ i < re.length := by simpa using h
          exact es_next ⟨re, k, _, _, _, _, _, _, _, hb, by omega, rfl⟩
      · rintro δ ⟨re, k, x4, x5, x6, x7, x8, x9, x10, hb, hki, rfl⟩
        simp only [List.length_map, List.length_range] at hki
        have hrl := hb.len ht h0'
        have hle := hb.le
        have e : k = re.length := by omega
        subst e
        exact ⟨re, _, _, _, _, _, _, _, hb, rfl⟩
    · rintro δ ⟨re, x4, x5, x6, x7, x8, x9, x10, hb, rfl⟩
      have hrl := hb.len ht h0'
      refine es_ret (ev_take (i := 3) rfl ?_)
      have hq : foundTo (ordered p) gs re re.length = numbered (ordered p) gs re := by unfold foundTo numbered; rw [List.take_length]
      rw [hq]
      exact hk _ (least_of hg hp0 hgs1 hgs2 hb) (by rw [numbered_len]; omega)
end
end K

namespace K
open PySem L2 DL
local macro_rules | `(tactic| walk_at "dl") => `(tactic| with_reducible first
  | refine es_if ?_ | refine es_append ?_ | refine es_sub ?_ | refine es_par3 ?_ | refine es_parD ?_ | refine es_asg ?_ | refine es_ret ?_ | refine es_retN ?_ | refine es_next ?_ | refine es_drop ?_ | refine es_break ?_ | refine es_cont ?_
  | refine et_val ?_ | refine et_B ?_ | refine et_not ?_ | refine et_and ?_ | refine et_or ?_ | refine et_yes ?_
  | refine ev_op ?_ | refine ev_un ?_ | refine ev_cb ?_ | refine ev_tup ?_ | refine ev_lst ?_ | refine ev_ifx ?_ | refine ev_andV ?_ | refine ev_orV ?_ | refine ev_notV ?_ | refine ev_sl ?_
  | refine ea_cons ?_ | refine ea_nil ?_ | refine ev_int ?_ | refine ev_str ?_ | refine ev_bl ?_ | refine ev_non ?_ | refine eo_none ?_ | refine eo_some ?_
  | refine gts_cons ?_ | refine gts_nil ?_
  | refine o2_addI ?_ | refine o2_ltI ?_ | refine o2_leI ?_ | refine o2_gtI ?_ | refine o2_geI ?_ | refine o2_ltS ?_ | refine o2_leS ?_ | refine o2_gtS ?_ | refine o2_sub ?_
  | refine oa_intI ?_ | refine oa_intB ?_ | refine oa_abs ?_ | refine oa_two ?_ | refine ulen_R ?_ | refine ulen_T ?_ | refine ulen_L LstV.d ?_
  | (refine ⟨_, Pu.d, ?_⟩) | (refine ⟨_, Pu.ptr, ?_⟩) | (refine ⟨_, Pu.fr, ?_⟩))
local macro_rules | `(tactic| walk_at "dv") => `(tactic| first
  | refine ev_var (by rfl) ?_ | refine ev_ptr (.inl (by rfl)) ?_ | refine ev_ptr (.inr (.inl (by rfl))) ?_ | refine ev_ptr (.inr (.inr (by rfl))) ?_
  | refine uix_L (LstV.o ⟨0, .inr (by rfl)⟩) (by rfl) ?_ | refine uix_L LstV.d (by rfl) ?_ | refine uix_T (by rfl) ?_
  | refine gt_tup (by rfl) ?_ | refine gt_name (by first | exact all_in | simp) ?_ | refine ⟨_, rfl, ?_⟩)
local macro_rules | `(tactic| walk_at "e") => `(tactic| repeat (first | walk_at "dl" | walk_at "dv"))
local macro_rules | `(tactic| walk_at "d") => `(tactic| repeat (first | with_reducible refine es_seq ?_ | walk_at "dl" | walk_at "dv"))
section
variable {P : Program} {w : World} {K : PySem.W.Frag} {mg : Str → Option Value} {base : Heap}
/-! ### at most one -/
def Sole (xs : List Str) : Prop := ∀ a ∈ xs, ∀ b ∈ xs, a = b
theorem sole_len {ks xs : List Str} (nd : ks.Nodup) (hm : ∀ x, x ∈ ks ↔ x ∈ xs) : ks.length ≤ 1 ↔ Sole xs := by
  constructor
  · intro h a ha b hb
    have ha := (hm a).mpr ha
    have hb := (hm b).mpr hb
    match ks, h, ha, hb with
    | [x], _, ha, hb => rw [List.mem_singleton] at ha hb; rw [ha, hb]
    | [], _, ha, _ => cases ha
  · intro h
    match ks, nd, hm with
    | [], _, _ => simp
    | [x], _, _ => simp
    | x :: y :: zs, nd, hm =>
      have e := h x ((hm x).mp List.mem_cons_self) y ((hm y).mp (List.mem_cons_of_mem _ List.mem_cons_self))
      subst e
      simp at nd
def signsOf (r : Room) : List Str := r.map (·.1)
def PlainP (p : Plan) : Prop := (∀ r ∈ p, Sole (signsOf r)) ∧ Sole (linesP p)
theorem LeastOf.rooms {p q : Plan} (h : LeastOf p q) (hg : GoodPlan p) (h0 : p ≠ []) : ∀ r ∈ q, ∃ r' ∈ p, r.length = r'.length := by
  obtain ⟨gs, re, _, hs, hc, hb, rfl⟩ := h.ex
  intro r hr
  obtain ⟨x, hx, rfl⟩ := List.mem_map.mp hr
  have h0' : ordered p ≠ [] := fun e => h0 (List.map_eq_nil_iff.mp e)
  have hxr := hb.range (ordered_tgt hg) h0' x hx
  obtain ⟨r', hr', hp⟩ := ordered_mem (rm_mem hxr.1 hxr.2)
  exact ⟨r', hr', by rw [List.length_map, hp.length_eq]⟩
abbrev s_is_plain : Stmt := topS 25
abbrev N_is_plain : List Str := ["service", "steps", "step"]
theorem sc_is_plain : FnScope N_is_plain ["service"] (defScope s_is_plain) := ⟨rfl, rfl, rfl, by decide +kernel, rfl, by decide +kernel, by decide +kernel⟩

def SIsPlain (C : Addr) : List T → (RT → Prop) → Prop := fun ts P => ∃ (p : Plan) (U : List Str), GoodPlan p ∧ U.length < 64 ∧ (∀ x ∈ linesP p, x ∈ U) ∧ ts = [objS C p] ∧ ∀ b : Bool, (b = true ↔ PlainP p) → P (.d (.bl b))
theorem ok_is_plain {f C fr fx pr px : Addr} {fd : FuncData} (Fn : Fun K "is_plain" "is_plain" s_is_plain f fd) (TX : TXF mg) (CL_Service : Cls K C)
    (C_Service_rooms : CalM P w K mg base 1 fr ["self"] (spP ⟨P, w, K⟩ (SRooms C))) (PO_Service_rooms : PropOf K C "rooms" pr fr)
    (C_Service_lines : CalM P w K mg base 1 fx ["self"] (spP ⟨P, w, K⟩ (SLines C))) (PO_Service_lines : PropOf K C "lines" px fx) : FnOk P w K mg base CX0 3 f fd ["service"] (spP ⟨P, w, K⟩ (SIsPlain C)) := by
  refine Fn.ok sc_is_plain (fun vs H Q E h => ?_) (fun cdv A outer s H vs Q E hr h => ?_)
  · obtain ⟨F, ts, _, hd, P, ⟨_, _, _, _, _, rfl, _⟩, _⟩ := h
    rw [hd.length]; rfl
  · obtain ⟨F, ts, fh, hd, PP, ⟨p, U, hgp, hU, hsub, rfl, hk⟩, q⟩ := h
    have hu := hr.units
    refine ⟨_, (pss_cons (ps_if (pt_cmpR op_uGt (pe_callB (call_lenB ⟨P, w, K⟩ rfl hu) (by rfl) TX.n_len (by decide +kernel) (pa_cons (pe_prop (pv 0) CL_Service PO_Service_lines C_Service_lines.ok (hr.mono (by decide)) C_Service_lines.bd .nil pass0 (by rfl)) pa_nil)) pe_int (nomark _)) (pss_one (ps_ret pe_bl)) pss_nil)
    (pss_one (ps_ret (pe_callB (call_allB ⟨P, w, K⟩ rfl rfl) (by rfl) TX.n_all (by decide +kernel) (pa_cons (pe_lc (own := [("steps", 1)]) (by rfl) sc_is_plain.nd (pi_listB ⟨P, w, K⟩ rfl (pe_prop (pv 0) CL_Service PO_Service_rooms C_Service_rooms.ok (hr.mono (by decide)) C_Service_rooms.bd .nil pass0 (by rfl))) (blkOk_by (N := N_is_plain) (sc := defScope s_is_plain) (by decide +kernel)) (fun _ _ _ _ _ => (pg_name (i := 1) sc_is_plain.nd rfl (Or.inl rfl))) (fun _ _ _ _ _ => pts_nil) (fun _ _ _ _ _ => (pe_cmpR op_uLe (pe_callB (call_lenTxB ⟨P, w, K⟩ rfl) (by rfl) TX.n_len (by decide +kernel) (pa_cons (scg (own := [("step", 2)]) (wayTxtB ⟨P, w, K⟩ rfl) (by rfl) sc_is_plain.nd (pi_listB ⟨P, w, K⟩ rfl (pv 1)) (blkOk_by (N := N_is_plain) (sc := _) (by rfl)) (fun _ _ _ _ _ => (pg_name (i := 2) sc_is_plain.nd rfl (Or.inl rfl))) (fun _ _ _ _ _ => pts_nil) (fun _ _ _ _ _ => (pe_ix (ix_B ⟨P, w, K⟩ rfl hu) (pv 2) pe_int (fun _ _ => rfl)))) pa_nil)) pe_int (nomark _)))) pa_nil))))), ?_⟩
    refine run_P (n := 2) fh hd rfl q ?_
    dsimp only [cxOf]
    refine es_seq ?_
    refine es_if (et_val (ev_op (ev_cb (ea_cons (ev_propR ?_)))))
    refine ev_var (by rfl) ⟨_, _, rfl, p, U, hgp, hU, hsub, rfl, fun ys hys a => ⟨_, Pu.fr, ea_nil ?_⟩⟩
    refine ulen_L LstV.d ⟨_, Pu.d, ev_int ⟨_, Pu.d, o2_gtI ⟨_, rfl, ?_⟩⟩⟩
    rw [List.length_map]
    have hl := sole_len hys.nd hys.mem
    refine ite2 (fun h => ?_) (fun h => ?_)
    · have h : (1 : Int) < ys.length := of_decide_eq_true h
      refine es_ret (ev_bl (hk false ⟨fun z => (by cases z), fun z => ?_⟩))
      have := hl.mpr z.2
      omega
    · have h : ¬ (1 : Int) < ys.length := fun z => h (decide_eq_true z)
      have hs := hl.mp (by omega)
      refine es_next ?_
      refine es_ret (ev_cb (ea_cons (ev_lcI (ei_L (ev_propR ?_)))))
      refine ev_var (by rfl) ⟨_, _, rfl, p, hgp.1, rfl, fun a => ?_⟩
      refine ⟨_, Pu.fr, by rw [List.length_map]; exact Nat.le_of_lt hgp.1, fun i acc δ => ∃ bs : List Bool, acc = bs.map T.bl ∧ ((∀ b ∈ bs, b = true) ↔ ∀ r ∈ p.take i, Sole (signsOf r)) ∧ δ = [.d (objS C p), .no, .no], ⟨[], rfl, by simp, rfl⟩, fun _ _ _ _ => trivial, ?_, ?_⟩
      · rintro i t acc δ hti _ ⟨bs, rfl, hbs, rfl⟩
        rw [List.getElem?_map] at hti
        obtain ⟨r, hr', rfl⟩ := Option.map_eq_some_iff.mp hti
        have hrm := List.mem_of_getElem? hr'
        walk_at "d"
        refine ite2 (fun _ => ?_) (fun h => nomatch h)
        refine ev_op (ev_cb (ea_consK ?_))
        refine ev_scI ["!", "?"] (by decide) (ei_L ?_)
        walk_at "d"
        refine ⟨fun j xs δ => xs = signsOf (r.take j) ∧ δ = [.d (objS C p), .d (eRoom r), .no], ⟨rfl, rfl⟩, fun _ _ _ _ => trivial, ?_, ?_⟩
        · rintro j t xs δ htj ⟨rfl, rfl⟩
          rw [List.getElem?_map] at htj
          obtain ⟨st, hst, rfl⟩ := Option.map_eq_some_iff.mp htj
          have hsm := List.mem_of_getElem? hst
          walk_at "d"
          refine ite2 (fun _ => ?_) (fun h => nomatch h)
          walk_at "d"
          refine ⟨?_, ?_, rfl⟩
          · rcases ((hgp.2 r hrm).2.1 st hsm).1 with e | e <;> rw [e] <;> simp
          · unfold signsOf; rw [List.take_add_one, hst]; simp
        · rintro xs ks δ ⟨rfl, rfl⟩ is hu' p1
          rw [List.length_map, List.take_length] at is
          refine ⟨_, _, rfl, ea_nil ?_⟩
          refine oa_lenTx ⟨_, Pu.d, ?_⟩
          walk_at "d"
          have hk1 := sole_len is.nd is.mem
          refine ⟨bs ++ [_], by rw [List.map_append]; rfl, ?_, rfl⟩
          have e : p.take (i + 1) = p.take i ++ [r] := by rw [List.take_add_one, hr']; rfl
          rw [e]
          simp only [List.mem_append, List.mem_singleton]
          constructor
          · intro h x hx
            rcases hx with hx | rfl
            · exact hbs.mp (fun b hb => h b (.inl hb)) x hx
            · have := h _ (.inr rfl)
              refine hk1.mp ?_
              have := of_decide_eq_true this
              omega
          · intro h b hb
            rcases hb with hb | rfl
            · exact hbs.mpr (fun x hx => h x (.inl hx)) b hb
            · have := hk1.mpr (h r (.inr rfl))
              exact decide_eq_true (by omega)
      · rintro acc δ _ ⟨bs, rfl, hbs, rfl⟩ p2
        rw [List.length_map, List.take_length] at hbs
        refine ⟨_, Pu.fr, ea_nil ?_⟩
        refine oa_all LstV.d ?_
        refine hk _ ?_
        rw [List.all_eq_true]
        exact ⟨fun h => ⟨hbs.mp fun b hb => h b hb, hs⟩, fun h b hb => hbs.mpr h.1 b hb⟩
end
end K

namespace K
open PySem L2 DL
local macro_rules | `(tactic| walk_at "dl") => `(tactic| with_reducible first
  | refine es_if ?_ | refine es_append ?_ | refine es_sub ?_ | refine es_par3 ?_ | refine es_parD ?_ | refine es_asg ?_ | refine es_ret ?_ | refine es_retN ?_ | refine es_next ?_ | refine es_drop ?_ | refine es_break ?_ | refine es_cont ?_
  | refine et_val ?_ | refine et_B ?_ | refine et_not ?_ | refine et_and ?_ | refine et_or ?_ | refine et_yes ?_
  | refine ev_op ?_ | refine ev_un ?_ | refine ev_cb ?_ | refine ev_tup ?_ | refine ev_lst ?_ | refine ev_ifx ?_ | refine ev_andV ?_ | refine ev_orV ?_ | refine ev_notV ?_ | refine ev_sl ?_
  | refine ea_cons ?_ | refine ea_nil ?_ | refine ev_int ?_ | refine ev_str ?_ | refine ev_bl ?_ | refine ev_non ?_ | refine eo_none ?_ | refine eo_some ?_
  | refine gts_cons ?_ | refine gts_nil ?_
  | refine o2_addI ?_ | refine o2_ltI ?_ | refine o2_leI ?_ | refine o2_gtI ?_ | refine o2_geI ?_ | refine o2_ltS ?_ | refine o2_leS ?_ | refine o2_gtS ?_ | refine o2_sub ?_
  | refine oa_intI ?_ | refine oa_intB ?_ | refine oa_abs ?_ | refine oa_two ?_ | refine ulen_R ?_ | refine ulen_T ?_ | refine ulen_L LstV.d ?_
  | (refine ⟨_, Pu.d, ?_⟩) | (refine ⟨_, Pu.ptr, ?_⟩) | (refine ⟨_, Pu.fr, ?_⟩))
local macro_rules | `(tactic| walk_at "dv") => `(tactic| first
  | refine ev_var (by rfl) ?_ | refine ev_ptr (.inl (by rfl)) ?_ | refine ev_ptr (.inr (.inl (by rfl))) ?_ | refine ev_ptr (.inr (.inr (by rfl))) ?_
  | refine uix_L (LstV.o ⟨0, .inr (by rfl)⟩) (by rfl) ?_ | refine uix_L LstV.d (by rfl) ?_ | refine uix_T (by rfl) ?_
  | refine gt_tup (by rfl) ?_ | refine gt_name (by first | exact all_in | simp) ?_ | refine ⟨_, rfl, ?_⟩)
local macro_rules | `(tactic| walk_at "e") => `(tactic| repeat (first | walk_at "dl" | walk_at "dv"))
local macro_rules | `(tactic| walk_at "d") => `(tactic| repeat (first | with_reducible refine es_seq ?_ | walk_at "dl" | walk_at "dv"))
section
variable {P : Program} {w : World} {K : PySem.W.Frag} {mg : Str → Option Value} {base : Heap}
theorem linesP_len2 {p : Plan} {n : Nat} (h : ∀ r ∈ p, r.length ≤ n) : (linesP p).length ≤ n * p.length := by
  unfold linesP
  induction p with
  | nil => simp
  | cons r p ih =>
    have h1 := h r List.mem_cons_self
    have h2 := ih fun r hr => h r (List.mem_cons_of_mem _ hr)
    rw [List.map_cons, List.flatten_cons, List.length_append, List.length_map, List.length_cons, Nat.mul_succ]
    omega
theorem linesP_take {p : Plan} {i : Nat} {r : Room} (h : p[i]? = some r) : linesP (p.take (i + 1)) = linesP (p.take i) ++ r.map (fun s => s.2.1) := by
  rw [List.take_add_one, h]; simp [linesP]
abbrev s_law_own_plain : Stmt := topS 40
abbrev N_law_own_plain : List Str := ["plan", "lines_owed", "fair", "steps_here", "step"]
theorem sc_law_own_plain : FnScope N_law_own_plain ["plan"] (defScope s_law_own_plain) := ⟨rfl, rfl, rfl, by decide +kernel, rfl, by decide +kernel, by decide +kernel⟩

def SOwnPlain : List T → (RT → Prop) → Prop := fun ts P => ∃ p : Plan, p.length ≤ 200 ∧ (∀ r ∈ p, r.length ≤ 10) ∧ ts = [ePlan p] ∧ ∀ b : Bool, (b = true ↔ PlainP p) → P (.d (.bl b))
theorem ok_own_plain {f : Addr} {fd : FuncData} (Fn : Fun K "_law_own_plain" "_law_own_plain" s_law_own_plain f fd) (TX : TXF mg) (N_set : mg "set" = none) : FnOk P w K mg base CX0 1 f fd ["plan"] (spP ⟨P, w, K⟩ SOwnPlain) := by
  refine Fn.ok sc_law_own_plain (fun vs H Q E h => ?_) (fun cdv A outer s H vs Q E hr h => ?_)
  · obtain ⟨F, ts, _, hd, P, ⟨_, _, _, rfl, _⟩, _⟩ := h
    rw [hd.length]; rfl
  · obtain ⟨F, ts, fh, hd, PP, ⟨p, hpl, hr10, rfl, hk⟩, q⟩ := h
    have hu := hr.units
    have hz9 : (3000 : Nat) < sizeLine := by decide +kernel
    refine ⟨_, (pss_cons (ps_par (i := 1) (j := 2) (by rfl) sc_law_own_plain.nd rfl rfl (by decide) rfl rfl (pa_cons (pe_lst pa_nil) (pa_cons pe_bl pa_nil)) (by rfl))
    (pss_cons (ps_for PassesOwn.never rfl (pi_listB ⟨P, w, K⟩ rfl (pv 0)) (pg_name (i := 3) sc_law_own_plain.nd rfl (Or.inl rfl)) (pss_cons (ps_set (i := 1) sc_law_own_plain.nd rfl (Or.inl rfl) (pe_op (op_addB ⟨P, w, K⟩ rfl) (pv 1) (pe_lc (own := [("step", 4)]) (by rfl) sc_law_own_plain.nd (pi_listB ⟨P, w, K⟩ rfl (pv 3)) (blkOk_by (N := N_law_own_plain) (sc := defScope s_law_own_plain) (by decide +kernel)) (fun _ _ _ _ _ => (pg_name (i := 4) sc_law_own_plain.nd rfl (Or.inl rfl))) (fun _ _ _ _ _ => pts_nil) (fun _ _ _ _ _ => (pe_ix (ix_B ⟨P, w, K⟩ rfl hu) (pv 4) pe_int (fun _ _ => rfl))))))
    (pss_one (ps_set (i := 2) sc_law_own_plain.nd rfl (Or.inl rfl) (pe_and (pv 2) (pe_one (pe_cmpR op_uLt (pe_callB (call_lenTxB ⟨P, w, K⟩ rfl) (by rfl) TX.n_len (by decide +kernel) (pa_cons (pe_callTy (call_setLB ⟨P, w, K⟩ rfl rfl) (by rfl) N_set (by decide +kernel) (pa_cons (pe_lc (own := [("step", 4)]) (by rfl) sc_law_own_plain.nd (pi_listB ⟨P, w, K⟩ rfl (pv 3)) (blkOk_by (N := N_law_own_plain) (sc := defScope s_law_own_plain) (by decide +kernel)) (fun _ _ _ _ _ => (pg_name (i := 4) sc_law_own_plain.nd rfl (Or.inl rfl))) (fun _ _ _ _ _ => pts_nil) (fun _ _ _ _ _ => (pe_ix (ix_B ⟨P, w, K⟩ rfl hu) (pv 4) pe_int (fun _ _ => rfl)))) pa_nil)) pa_nil)) pe_int (nomark _))))))))
    (pss_one (ps_ret (pe_and (pv 2) (pe_one (pe_cmpR op_uLt (pe_callB (call_lenTxB ⟨P, w, K⟩ rfl) (by rfl) TX.n_len (by decide +kernel) (pa_cons (pe_callTy (call_setLB ⟨P, w, K⟩ rfl rfl) (by rfl) N_set (by decide +kernel) (pa_cons (pv 1) pa_nil)) pa_nil)) pe_int (nomark _)))))))), ?_⟩
    refine run_P (n := 4) fh hd rfl q ?_
    dsimp only [cxOf]
    refine es_seq ?_
    refine es_parG (by decide) (ea_consK (ev_lst (ea_nil ⟨[], rfl, (show 0 ≤ sizeLine by omega), fun p1 => ⟨_, _, rfl, ea_cons (ev_bl ⟨_, Pu.d, ea_nil ⟨_, _, rfl, .own, .d, ?_⟩⟩)⟩⟩)))
    refine es_seqJ (fun δ => ∃ (p1 : Addr) (b : Bool) (x3 : SV), (b = true ↔ ∀ r ∈ p, Sole (signsOf r)) ∧ δ = [.d (ePlan p), .own p1 (.lst ((linesP p).map .str)), .d (.bl b), x3, .no]) ?_ ?_
    · refine es_forI (ei_L ?_)
      walk_at "e"
      refine ⟨fun i δ => ∃ (p1 : Addr) (b : Bool) (x3 : SV), (b = true ↔ ∀ r ∈ p.take i, Sole (signsOf r)) ∧ δ = [.d (ePlan p), .own p1 (.lst ((linesP (p.take i)).map .str)), .d (.bl b), x3, .no], ⟨p1, true, _, by simp, rfl⟩, fun _ _ _ => trivial, ?_, fun δ h => by rw [List.length_map, List.take_length] at h; exact h⟩
      rintro i t δ hti ⟨p2, b, x3, hb, rfl⟩
      rw [List.getElem?_map] at hti
      obtain ⟨r, hr', rfl⟩ := Option.map_eq_some_iff.mp hti
      have hrm := List.mem_of_getElem? hr'
      have hrl := hr10 r hrm
      have hll := linesP_len2 (p := p.take i) (n := 10) fun r hr => hr10 r (List.mem_of_mem_take hr)
      have htl : (p.take i).length ≤ 200 := by rw [List.length_take]; omega
      refine gt_name all_in ?_
      refine es_seq ?_
      refine es_asg (ev_op (ev_ptr (a := p2) (.inl (by rfl)) ⟨_, Pu.ptr, ev_lcI (ei_L ?_)⟩))
      walk_at "e"
      refine ⟨by rw [List.length_map]; omega, fun j acc δ => acc = ((r.take j).map fun s => s.2.1).map T.str ∧ δ = [.d (ePlan p), .own p2 (.lst ((linesP (p.take i)).map .str)), .d (.bl b), .d (eRoom r), .no], ⟨rfl, rfl⟩, fun _ _ _ _ => trivial, ?_, ?_⟩
      · rintro j t acc δ htj _ ⟨rfl, rfl⟩
        rw [List.getElem?_map] at htj
        obtain ⟨st, hst, rfl⟩ := Option.map_eq_some_iff.mp htj
        walk_at "d"
        refine ite2 (fun _ => ?_) (fun h => nomatch h)
        walk_at "d"
        refine ⟨?_, rfl⟩
        rw [List.take_add_one, hst]; simp
      rintro acc δ _ ⟨rfl, rfl⟩ p3
      rw [List.length_map, List.take_length]
      refine ⟨_, Pu.fr, ?_⟩
      refine o2_cat (LstV.o ⟨1, .inl rfl⟩) LstV.d (by rw [List.length_map, List.length_map, List.length_map]; omega) fun p4 => ?_
      refine gt_name all_in ?_
      have el : (linesP (p.take i)).map T.str ++ (r.map fun s => s.2.1).map T.str = (linesP (p.take (i + 1))).map T.str := by rw [linesP_take hr', List.map_append]
      rw [el]
      have e : p.take (i + 1) = p.take i ++ [r] := by rw [List.take_add_one, hr']; rfl
      refine es_asg (ev_andV (ev_var (by rfl) ⟨_, rfl, ?_⟩))
      refine ite2 (fun h => ?_) (fun h => ?_)
      · refine ev_op (ev_cb (ea_consK (ev_cb (ea_cons (ev_lcI (ei_L ?_))))))
        walk_at "e"
        refine ⟨by rw [List.length_map]; omega, fun j acc δ => acc = (signsOf (r.take j)).map T.str ∧ δ = [.d (ePlan p), .own p4 (.lst ((linesP (p.take (i + 1))).map .str)), .d (.bl b), .d (eRoom r), .no], ⟨rfl, rfl⟩, fun _ _ _ _ => trivial, ?_, ?_⟩
        · rintro j t acc δ htj _ ⟨rfl, rfl⟩
          rw [List.getElem?_map] at htj
          obtain ⟨st, hst, rfl⟩ := Option.map_eq_some_iff.mp htj
          walk_at "d"
          refine ite2 (fun _ => ?_) (fun h => nomatch h)
          walk_at "d"
          refine ⟨?_, rfl⟩
          unfold signsOf
          rw [List.take_add_one, hst]; simp
        rintro acc δ _ ⟨rfl, rfl⟩ p5
        rw [List.length_map, List.take_length]
        refine ⟨_, Pu.fr, ea_nil ?_⟩
        refine oa_setL (xs := signsOf r) LstV.d (show _ < 4096 by unfold signsOf; rw [List.length_map]; omega) fun p6 ks is => ?_
        refine ⟨_, _, rfl, ea_nil ?_⟩
        refine oa_lenTx ⟨_, Pu.d, ?_⟩
        walk_at "d"
        have hk1 := sole_len is.nd is.mem
        refine ⟨p4, _, _, ?_, rfl⟩
        rw [e, decide_eq_true_eq]
        simp only [List.mem_append, List.mem_singleton]
        have hb1 := hb.mp h
        exact ⟨fun z x hx => hx.elim (hb1 x) fun q => by subst q; exact hk1.mp (by omega), fun z => by have := hk1.mpr (z r (.inr rfl)); omega⟩
      · have hbf : b = false := by cases b with | false => rfl | true => exact absurd rfl h
        subst hbf
        refine gt_name all_in ?_
        refine ⟨p4, false, _, ?_, rfl⟩
        rw [e]
        refine ⟨fun z => (by cases z), fun z => ?_⟩
        exact hb.mpr fun x hx => z x (List.mem_append_left _ hx)
    · rintro δ ⟨p2, b, x3, hb, rfl⟩
      have hll := linesP_len2 (p := p) (n := 10) hr10
      refine es_ret (ev_andV (ev_var (by rfl) ⟨_, rfl, ?_⟩))
      refine ite2 (fun h => ?_) (fun h => ?_)
      · refine ev_op (ev_cb (ea_consK (ev_cb (ea_cons (ev_ptr (a := p2) (.inl (by rfl)) ⟨_, Pu.ptr, ea_nil ?_⟩)))))
        refine oa_setL (xs := linesP p) (LstV.o ⟨1, .inl rfl⟩) (show _ < 4096 by omega) fun p6 ks is => ?_
        refine ⟨_, _, rfl, ea_nil ?_⟩
        refine oa_lenTx ⟨_, Pu.d, ?_⟩
        walk_at "d"
        have hk1 := sole_len is.nd is.mem
        refine hk _ ?_
        rw [decide_eq_true_eq]
        exact ⟨fun z => ⟨hb.mp h, hk1.mp (by omega)⟩, fun z => by have := hk1.mpr z.2; omega⟩
      · have hbf : b = false := by cases b with | false => rfl | true => exact absurd rfl h
        subst hbf
        exact hk false ⟨fun z => (by cases z), fun z => hb.mpr z.1⟩
end
end K

namespace K
open PySem L2 DL
local macro_rules | `(tactic| walk_at "dl") => `(tactic| with_reducible first
  | refine es_if ?_ | refine es_append ?_ | refine es_sub ?_ | refine es_par3 ?_ | refine es_parD ?_ | refine es_asg ?_ | refine es_ret ?_ | refine es_retN ?_ | refine es_next ?_ | refine es_drop ?_ | refine es_break ?_ | refine es_cont ?_
  | refine et_val ?_ | refine et_B ?_ | refine et_not ?_ | refine et_and ?_ | refine et_or ?_ | refine et_yes ?_
  | refine ev_op ?_ | refine ev_un ?_ | refine ev_cb ?_ | refine ev_tup ?_ | refine ev_lst ?_ | refine ev_ifx ?_ | refine ev_andV ?_ | refine ev_orV ?_ | refine ev_notV ?_ | refine ev_sl ?_
  | refine ea_cons ?_ | refine ea_nil ?_ | refine ev_int ?_ | refine ev_str ?_ | refine ev_bl ?_ | refine ev_non ?_ | refine eo_none ?_ | refine eo_some ?_
  | refine gts_cons ?_ | refine gts_nil ?_
  | refine o2_addI ?_ | refine o2_ltI ?_ | refine o2_leI ?_ | refine o2_gtI ?_ | refine o2_geI ?_ | refine o2_ltS ?_ | refine o2_leS ?_ | refine o2_gtS ?_ | refine o2_sub ?_
  | refine oa_intI ?_ | refine oa_intB ?_ | refine oa_abs ?_ | refine oa_two ?_ | refine ulen_R ?_ | refine ulen_T ?_ | refine ulen_L LstV.d ?_
  | (refine ⟨_, Pu.d, ?_⟩) | (refine ⟨_, Pu.ptr, ?_⟩) | (refine ⟨_, Pu.fr, ?_⟩))
local macro_rules | `(tactic| walk_at "dv") => `(tactic| first
  | refine ev_var (by rfl) ?_ | refine ev_ptr (.inl (by rfl)) ?_ | refine ev_ptr (.inr (.inl (by rfl))) ?_ | refine ev_ptr (.inr (.inr (by rfl))) ?_
  | refine uix_L (LstV.o ⟨0, .inr (by rfl)⟩) (by rfl) ?_ | refine uix_L LstV.d (by rfl) ?_ | refine uix_T (by rfl) ?_
  | refine gt_tup (by rfl) ?_ | refine gt_name (by first | exact all_in | simp) ?_ | refine ⟨_, rfl, ?_⟩)
local macro_rules | `(tactic| walk_at "e") => `(tactic| repeat (first | walk_at "dl" | walk_at "dv"))
local macro_rules | `(tactic| walk_at "d") => `(tactic| repeat (first | with_reducible refine es_seq ?_ | walk_at "dl" | walk_at "dv"))
section
variable {P : Program} {w : World} {K : PySem.W.Frag} {mg : Str → Option Value} {base : Heap}
def SFits : OW → List T → (OW → RT → Prop) → Prop := fun us ts P => ∃ n : Nat, n ≤ 50000 ∧ Mint n us ∧ ts = [] ∧ ∀ us', Mint (n + 5000) us' → P us' (.d (.bl true))
theorem cut_drop1 {α : Type} (n : Nat) (xs : List α) : cutG xs (some (n : Int)) none = xs.drop n := cut_drop xs n
theorem cut_last {α : Type} (xs : List α) : cutG xs none (some (-1)) = xs.dropLast := by
  unfold cutG
  rw [HT.sIx_none, List.drop_zero, Nat.sub_zero, List.dropLast_eq_take]
  congr 1
  unfold HT.sIx
  simp
  omega
theorem at_last {α : Type} {xs : List α} (h : xs ≠ []) : atI xs (-1) = some (xs.getLast h) := by
  have hl := List.length_pos_iff.mpr h
  unfold atI
  have e : ixN xs.length (-1) = some (xs.length - 1) := by
    unfold ixN
    simp
    omega
  rw [e, List.getLast_eq_getElem]
  simp
/-- goals below n -/
def capS (n : Int) (s : Stp) : Stp := (s.1, s.2.1, s.2.2.1, if n - 1 < s.2.2.2 then n - 1 else s.2.2.2)
def capP (n : Int) (p : Plan) : Plan := p.map fun r => r.map (capS n)
/-- the last step leads to n -/
def setLast (n : Int) (r : Room) : Room := match r.getLast? with | none => [] | some s => r.dropLast ++ [(s.1, s.2.1, s.2.2.1, n)]
theorem capS_key (n : Int) (r : Room) : (r.map (capS n)).map kyOf = r.map kyOf := by rw [List.map_map]; rfl
theorem setLast_key (n : Int) (r : Room) : (setLast n r).map kyOf = r.map kyOf := by
  unfold setLast
  cases h : r.getLast? with
  | none => rw [List.getLast?_eq_none_iff] at h; subst h; rfl
  | some s =>
    obtain ⟨ys, rfl⟩ := List.getLast?_eq_some_iff.mp h
    simp [kyOf]
theorem setLast_len (n : Int) (r : Room) : (setLast n r).length = r.length := by
  have := congrArg List.length (setLast_key n r)
  simpa using this
theorem good_cap {p : Plan} {n m k : Nat} (hg : ∀ r ∈ p, GoodRoom k r) (hn : 1 ≤ n) (hm : n < m) : ∀ r ∈ capP n p, GoodRoom m r := fun r hr => by
  obtain ⟨r0, hr0, rfl⟩ := List.mem_map.mp hr
  obtain ⟨h1, h2, h3⟩ := hg r0 hr0
  refine ⟨by rw [List.length_map]; exact h1, fun s hs => ?_, by rw [capS_key]; exact h3⟩
  obtain ⟨t, ht, rfl⟩ := List.mem_map.mp hs
  obtain ⟨a, b, c, d, e⟩ := h2 t ht
  refine ⟨a, b, c, ?_, ?_⟩
  · show (0 : Int) ≤ if (n : Int) - 1 < t.2.2.2 then (n : Int) - 1 else t.2.2.2
    split
    · omega
    · exact d
  · show (if (n : Int) - 1 < t.2.2.2 then (n : Int) - 1 else t.2.2.2) < (m : Int)
    split <;> omega
theorem good_last {n m : Nat} {r : Room} (hm : n < m) (h : GoodRoom m r) : GoodRoom m (setLast n r) := by
  obtain ⟨h1, h2, h3⟩ := h
  refine ⟨by rw [setLast_len]; exact h1, fun s hs => ?_, by rw [setLast_key]; exact h3⟩
  unfold setLast at hs
  cases e : r.getLast? with
  | none => rw [e] at hs; cases hs
  | some t =>
    rw [e] at hs
    rcases List.mem_append.mp hs with hs | hs
    · exact h2 s ((List.dropLast_sublist r).subset hs)
    · rw [List.mem_singleton] at hs
      subst hs
      obtain ⟨a, b, c, _, _⟩ := h2 t (List.mem_of_getLast? e)
      exact ⟨a, b, c, show (0 : Int) ≤ n by omega, show (n : Int) < m by omega⟩
def bothP (l x : Str) : Room := [("!", l, x, 0), ("?", l, x, 0)]
theorem good_both {m : Nat} {l x : Str} (hm : 0 < m) (hl : IsName l) (hx : IsName x) : GoodRoom m (bothP l x) := by
  refine ⟨show 2 < sizeLine by decide +kernel, fun s hs => ?_, ?_⟩
  · have hs : s = ((("!" : Str), l, x, (0 : Int)) : Stp) ∨ s = ((("?" : Str), l, x, (0 : Int)) : Stp) := by simpa [bothP] using hs
    rcases hs with h | h <;> subst h
    · exact ⟨.inl rfl, hl, hx, show (0 : Int) ≤ 0 by decide, show (0 : Int) < m by omega⟩
    · exact ⟨.inr rfl, hl, hx, show (0 : Int) ≤ 0 by decide, show (0 : Int) < m by omega⟩
  · have : ¬ ("!" : Str) = "?" := by decide
    simp [bothP, kyOf, this]
abbrev s_law_fits : Stmt := topS 41
abbrev N_law_fits : List Str := ["mint", "names_here", "turn", "lines_here", "plan", "count", "cut", "steps_here", "line", "at", "made", "owed", "step"]
theorem sc_law_fits : FnScope N_law_fits ["mint"] (defScope s_law_fits) := ⟨rfl, rfl, rfl, by decide +kernel, rfl, by decide +kernel, by decide +kernel⟩

theorem ok_fits {f C : Addr} {fd : FuncData} (Fn : Fun K "_law_fits" "_law_fits" s_law_fits f fd) (TX : TXF mg)
    (C_law_coin : Cal P w K mg base CX0 "_law_coin" 1 ["mint", "many"] (spM ⟨P, w, K⟩ SCoin))
    (C_law_labels : Cal P w K mg base CX0 "_law_labels" 2 ["mint", "many"] (spM ⟨P, w, K⟩ SLabels))
    (C_law_plan_of : Cal P w K mg base CX0 "_law_plan_of" 3 ["mint", "most", "lines_here", "words_here", "one_sign"] (spM ⟨P, w, K⟩ SPlanOf))
    (C_law_made_service : Cal P w K mg base CX0 "_law_made_service" 6 ["plan"] (spP ⟨P, w, K⟩ (SMade C)))
    (C_law_least_plan : Cal P w K mg base CX0 "_law_least_plan" 3 ["plan"] (spP ⟨P, w, K⟩ SLeastPlan))
    (C_law_own_plain : Cal P w K mg base CX0 "_law_own_plain" 1 ["plan"] (spP ⟨P, w, K⟩ SOwnPlain))
    (C_is_plain : Cal P w K mg base CX0 "is_plain" 3 ["service"] (spP ⟨P, w, K⟩ (SIsPlain C))) (KB_is_plain : KBinds K C_is_plain.fd ["service"] ["service"] gOne gOne) :
    FnG P w K mg base 8 f fd ["mint"] (spM ⟨P, w, K⟩ SFits) := by
  refine FnG.make Fn sc_law_fits (fun vs H Q E h => ?_) (fun cdv A outer s H vs Q E gd hr h => ?_)
  · obtain ⟨F, m, ws, us, ts, rfl, _, _, _, hd, P, ⟨_, _, _, rfl, _⟩, _⟩ := h
    rw [List.length_cons, hd.length]; rfl
  · obtain ⟨F, m, ws, us, ts, rfl, fh, fm, hm, hd, PP, ⟨n0, hn0, hmint, rfl, hk⟩, q⟩ := h
    have hu := hr.units
    have hz9 : (1000 : Nat) < sizeLine := by decide +kernel
    refine ⟨_, (pss_cons (ps_set (i := 1) sc_law_fits.nd rfl (Or.inl rfl) (pe_call C_law_labels.ok (hr.mono (by decide)) (by rfl) C_law_labels.mg C_law_labels.kp C_law_labels.bd .nil pass0 (pa_cons (pv 0) (pa_cons pe_int pa_nil))))
    (pss_cons (ps_for PassesOwn.never rfl (pi_range1 (by rfl) TX.n_range (pa_cons pe_int pa_nil)) (pg_name (i := 2) sc_law_fits.nd rfl (Or.inl rfl)) (pss_cons (ps_set (i := 3) sc_law_fits.nd rfl (Or.inl rfl) (pe_slice (sl_B ⟨P, w, K⟩ rfl) (pv 1) po_none (po_some (pe_ix (ix_B ⟨P, w, K⟩ rfl hu) (pe_lst (pa_cons pe_int (pa_cons pe_int (pa_cons pe_int (pa_cons pe_int pa_nil))))) (pe_call C_law_coin.ok (hr.mono (by decide)) (by rfl) C_law_coin.mg C_law_coin.kp C_law_coin.bd .nil pass0 (pa_cons (pv 0) (pa_cons pe_int pa_nil))) (fun _ _ => rfl)))))
    (pss_cons (ps_set (i := 4) sc_law_fits.nd rfl (Or.inl rfl) (pe_call C_law_plan_of.ok (hr.mono (by decide)) (by rfl) C_law_plan_of.mg C_law_plan_of.kp C_law_plan_of.bd .nil pass0 (pa_cons (pv 0) (pa_cons pe_int (pa_cons (pv 3) (pa_cons (pe_slice (sl_B ⟨P, w, K⟩ rfl) (pv 1) (po_some pe_int) po_none) (pa_cons (pe_cmpR op_uGt (pe_call C_law_coin.ok (hr.mono (by decide)) (by rfl) C_law_coin.mg C_law_coin.kp C_law_coin.bd .nil pass0 (pa_cons (pv 0) (pa_cons pe_int pa_nil))) pe_int (nomark _)) pa_nil)))))))
    (pss_cons (ps_if (pt_cmpR (op_eqB ⟨P, w, K⟩ rfl hu) (pe_call C_law_coin.ok (hr.mono (by decide)) (by rfl) C_law_coin.mg C_law_coin.kp C_law_coin.bd .nil pass0 (pa_cons (pv 0) (pa_cons pe_int pa_nil))) pe_int (nomark _)) (pss_cons (ps_set (i := 4) sc_law_fits.nd rfl (Or.inl rfl) (pe_slice (sl_B ⟨P, w, K⟩ rfl) (pv 4) po_none (po_some pe_int)))
    (pss_cons (ps_set (i := 5) sc_law_fits.nd rfl (Or.inr rfl) (pe_callB (call_lenB ⟨P, w, K⟩ rfl hu) (by rfl) TX.n_len (by decide +kernel) (pa_cons (pv 4) pa_nil)))
    (pss_cons (ps_set (i := 6) sc_law_fits.nd rfl (Or.inl rfl) (pe_lst pa_nil))
    (pss_cons (ps_for PassesOwn.never rfl (pi_listB ⟨P, w, K⟩ rfl (pv 4)) (pg_name (i := 7) sc_law_fits.nd rfl (Or.inl rfl)) (pss_one (ps_expr (pe_bm PySem.F.plainAttrs_list PySem.F.slot_list_append PySem.F.type_list_append mt_append (pv 6) (pa_cons (pe_lc (own := [("step", 12)]) (by rfl) sc_law_fits.nd (pi_listB ⟨P, w, K⟩ rfl (pv 7)) (blkOk_by (N := N_law_fits) (sc := defScope s_law_fits) (by decide +kernel)) (fun _ _ _ _ _ => (pg_name (i := 12) sc_law_fits.nd rfl (Or.inl rfl))) (fun _ _ _ _ _ => pts_nil) (fun _ _ _ _ _ => (pe_tup (pa_cons (pe_ix (ix_B ⟨P, w, K⟩ rfl hu) (pv 12) pe_int (fun _ _ => rfl)) (pa_cons (pe_ix (ix_B ⟨P, w, K⟩ rfl hu) (pv 12) pe_int (fun _ _ => rfl)) (pa_cons (pe_ix (ix_B ⟨P, w, K⟩ rfl hu) (pv 12) pe_int (fun _ _ => rfl)) (pa_cons (pe_callB (call_min2' rfl) (by rfl) TX.n_min (by decide +kernel) (pa_cons (pe_ix (ix_B ⟨P, w, K⟩ rfl hu) (pv 12) pe_int (fun _ _ => rfl)) (pa_cons (pe_op op_sub (pv 5) pe_int) pa_nil))) pa_nil))))))) pa_nil)))))
    (pss_cons (ps_set (i := 4) sc_law_fits.nd rfl (Or.inl rfl) (pv 6))
    (pss_cons (ps_set (i := 8) sc_law_fits.nd rfl (Or.inl rfl) (pe_ix (ix_B ⟨P, w, K⟩ rfl hu) (pv 1) (pe_call C_law_coin.ok (hr.mono (by decide)) (by rfl) C_law_coin.mg C_law_coin.kp C_law_coin.bd .nil pass0 (pa_cons (pv 0) (pa_cons pe_int pa_nil))) (fun _ _ => rfl)))
    (pss_cons (ps_expr (pe_bm PySem.F.plainAttrs_list PySem.F.slot_list_append PySem.F.type_list_append mt_append (pv 4) (pa_cons (pe_lst (pa_cons (pe_tup (pa_cons pe_str (pa_cons (pv 8) (pa_cons (pe_ix (ix_B ⟨P, w, K⟩ rfl hu) (pv 1) pe_int (fun _ _ => rfl)) (pa_cons pe_int pa_nil))))) (pa_cons (pe_tup (pa_cons pe_str (pa_cons (pv 8) (pa_cons (pe_ix (ix_B ⟨P, w, K⟩ rfl hu) (pv 1) pe_int (fun _ _ => rfl)) (pa_cons pe_int pa_nil))))) pa_nil))) pa_nil)))
    (pss_cons (ps_set (i := 9) sc_law_fits.nd rfl (Or.inl rfl) (pe_call C_law_coin.ok (hr.mono (by decide)) (by rfl) C_law_coin.mg C_law_coin.kp C_law_coin.bd .nil pass0 (pa_cons (pv 0) (pa_cons (pv 5) pa_nil))))
    (pss_one (ps_if (PW.pt (pw_and (pt_cmpR (op_neB ⟨P, w, K⟩ rfl hu) (pe_ix (ix_B ⟨P, w, K⟩ rfl hu) (pv 4) (pv 9) (fun _ _ => rfl)) (pe_lst pa_nil) (nomark _)) (pw_and1 (pt_cmpR (op_eqB ⟨P, w, K⟩ rfl hu) (pe_call C_law_coin.ok (hr.mono (by decide)) (by rfl) C_law_coin.mg C_law_coin.kp C_law_coin.bd .nil pass0 (pa_cons (pv 0) (pa_cons pe_int pa_nil))) pe_int (nomark _))))) (pss_one (ps_asg (pe_op (op_addB ⟨P, w, K⟩ rfl) (pe_slice (sl_B ⟨P, w, K⟩ rfl) (pe_ix (ix_B ⟨P, w, K⟩ rfl hu) (pv 4) (pv 9) (fun _ _ => rfl)) po_none (po_some (pe_un un_neg pe_int))) (pe_lst (pa_cons (pe_tup (pa_cons (pe_ix (ix_B ⟨P, w, K⟩ rfl hu) (pe_ix (ix_B ⟨P, w, K⟩ rfl hu) (pe_ix (ix_B ⟨P, w, K⟩ rfl hu) (pv 4) (pv 9) (fun _ _ => rfl)) (pe_un un_neg pe_int) (fun _ _ => rfl)) pe_int (fun _ _ => rfl)) (pa_cons (pe_ix (ix_B ⟨P, w, K⟩ rfl hu) (pe_ix (ix_B ⟨P, w, K⟩ rfl hu) (pe_ix (ix_B ⟨P, w, K⟩ rfl hu) (pv 4) (pv 9) (fun _ _ => rfl)) (pe_un un_neg pe_int) (fun _ _ => rfl)) pe_int (fun _ _ => rfl)) (pa_cons (pe_ix (ix_B ⟨P, w, K⟩ rfl hu) (pe_ix (ix_B ⟨P, w, K⟩ rfl hu) (pe_ix (ix_B ⟨P, w, K⟩ rfl hu) (pv 4) (pv 9) (fun _ _ => rfl)) (pe_un un_neg pe_int) (fun _ _ => rfl)) pe_int (fun _ _ => rfl)) (pa_cons (pv 5) pa_nil))))) pa_nil))) (pg_sub (pv 4) (pv 9) (set_B ⟨P, w, K⟩ rfl hu)))) pss_nil)))))))))) pss_nil)
    (pss_cons (ps_par (i := 10) (j := 11) (by rfl) sc_law_fits.nd rfl rfl (by decide) rfl rfl (pa_cons (pe_call C_law_made_service.ok (hr.mono (by decide)) (by rfl) C_law_made_service.mg C_law_made_service.kp C_law_made_service.bd .nil pass0 (pa_cons (pv 4) pa_nil)) (pa_cons (pe_call C_law_own_plain.ok (hr.mono (by decide)) (by rfl) C_law_own_plain.mg C_law_own_plain.kp C_law_own_plain.bd .nil pass0 (pa_cons (pe_call C_law_least_plan.ok (hr.mono (by decide)) (by rfl) C_law_least_plan.mg C_law_least_plan.kp C_law_least_plan.bd .nil pass0 (pa_cons (pv 4) pa_nil)) pa_nil)) pa_nil)) (by rfl))
    (pss_one (ps_if (pt_cmpR op_ne (pe_callB (call_reprB ⟨P, w, K⟩ rfl gd hu) (by rfl) TX.n_repr (by decide +kernel) (pa_cons (pe_lst (pa_cons (pe_call C_is_plain.ok (hr.mono (by decide)) (by rfl) C_is_plain.mg C_is_plain.kp C_is_plain.bd .nil pass0 (pa_cons (pv 10) pa_nil)) (pa_cons (pe_callKS C_is_plain.ok (hr.mono (by decide)) (by rfl) C_is_plain.mg C_is_plain.kp KB_is_plain (fun _ => pass0S) (pk_cons (pv 10) pk_nil)) pa_nil))) pa_nil)) (pe_callB (call_reprB ⟨P, w, K⟩ rfl gd hu) (by rfl) TX.n_repr (by decide +kernel) (pa_cons (pe_lst (pa_cons (pv 11) (pa_cons (pv 11) pa_nil))) pa_nil)) (nomark _)) (pss_one (ps_ret pe_bl)) pss_nil)))))))
    (pss_one (ps_ret pe_bl)))), ?_⟩
    refine run_M (n := 12) fh fm hm hd rfl q ?_
    dsimp only [cxOf]
    have ct6 : ∀ xs : List T, cutG xs none (some 6) = xs.take 6 := fun xs => cut_take xs 6
    have cd3 : ∀ xs : List T, cutG xs (some 3) none = xs.drop 3 := fun xs => cut_drop xs 3
    refine es_seq ?_
    refine es_asg (ev_callM ?_)
    walk_at "e"
    refine ⟨_, [.int 7], rfl, 0, us, fun us' z => ∃ ls : List Str, Mint (n0 + 13) us' ∧ ls.length = 7 ∧ (∀ x ∈ ls, IsName x) ∧ z = .new (.lst (ls.map .str)), ⟨n0, 7, by omega, hmint, by omega, by omega, rfl, fun us' ls h1 h2 h3 _ => ⟨ls, h1, h2, h3, rfl⟩⟩, .inr ⟨rfl, ?_⟩⟩
    rintro us1 _ ⟨ls, hm1, hls, hln, rfl⟩ p1
    refine gt_name all_in ?_
    refine es_frz (i := 1) rfl rfl ?_
    refine es_seqJ (fun δ => ∃ (us : OW) (x2 x3 x4 x5 x6 x7 x8 x9 x10 x11 : SV), Mint (n0 + 13 + 200 * 4) us ∧ δ = [.arg m us, .d (.lst (ls.map .str)), x2, x3, x4, x5, x6, x7, x8, x9, x10, x11, .no]) ?_ ?_
    · refine es_forI (ei_R (ea_cons (ev_int ⟨_, Pu.d, ea_nil ?_⟩)))
      refine ⟨4, rfl, by decide, fun i δ => ∃ (us : OW) (x2 x3 x4 x5 x6 x7 x8 x9 x10 x11 : SV), Mint (n0 + 13 + 200 * i) us ∧ δ = [.arg m us, .d (.lst (ls.map .str)), x2, x3, x4, x5, x6, x7, x8, x9, x10, x11, .no], ⟨us1, _, _, _, _, _, _, _, _, _, _, hm1, rfl⟩, fun _ _ _ => trivial, ?_, fun δ h => h⟩
      rintro i tt δ ht ⟨us1, x2, x3, x4, x5, x6, x7, x8, x9, x10, x11, hm1, rfl⟩
      have hi : i < 4 := by
        have := (List.getElem?_eq_some_iff.mp ht).1
        simpa using this
      refine gt_name all_in ?_
      -- the lines
      refine es_seq ?_
      refine es_asg (ev_sl ?_)
      walk_at "e"
      refine ⟨([1, 1, 2, 3] : List Int).map T.int, rfl, (show 4 ≤ sizeLine by omega), fun p2 => ⟨_, Pu.fr, ?_⟩⟩
      refine ev_coin ?_
      walk_at "e"
      refine ⟨_, us1, n0 + 13 + 200 * i, 4, rfl, rfl, hm1, by omega, by decide, small (by decide), fun us2 r hm2 hr1 hr2 => ⟨_, Pu.d, ?_⟩⟩
      obtain ⟨k, hkk, hk1, hk3⟩ : ∃ k : Nat, atI (([1, 1, 2, 3] : List Int).map T.int) r = some (.int k) ∧ 1 ≤ k ∧ k ≤ 3 := by
        have : r = 0 ∨ r = 1 ∨ r = 2 ∨ r = 3 := by omega
        rcases this with h | h | h | h <;> subst h
        · exact ⟨1, rfl, by decide, by decide⟩
        · exact ⟨1, rfl, by decide, by decide⟩
        · exact ⟨2, rfl, by decide, by decide⟩
        · exact ⟨3, rfl, by decide, by decide⟩
      refine uix_L LstV.d hkk ?_
      refine ⟨_, rfl, os_L LstV.d fun p3 => ?_⟩
      rw [cut_take, ← List.map_take]
      refine gt_name all_in ?_
      refine es_frz (i := 3) rfl rfl ?_
      have hl2 : (ls.take k).length = k := by rw [List.length_take]; omega
      have hw3 : (ls.drop 3).length = 4 := by rw [List.length_drop]; omega
      have hl2n : ∀ x ∈ ls.take k, IsName x := fun x hx => hln x (List.mem_of_mem_take hx)
      have hw3n : ∀ x ∈ ls.drop 3, IsName x := fun x hx => hln x (List.mem_of_mem_drop hx)
      generalize ls.take k = lines at hl2 hl2n
      -- the plan
      refine es_seq ?_
      refine es_asg (ev_callM ?_)
      walk_at "e"
      refine os_L LstV.d fun p4 => ?_
      rw [cd3, ← List.map_drop]
      refine ⟨_, Pu.fr, ea_cons (ev_op ?_)⟩
      refine ev_coin ?_
      walk_at "e"
      refine ⟨_, us2, n0 + 13 + 200 * i + 1, 3, rfl, rfl, hm2, by omega, by decide, small (by decide), fun us3 r hm3 hr1 hr2 => ⟨_, Pu.d, ?_⟩⟩
      walk_at "e"
      generalize hw : ls.drop 3 = words at hw3 hw3n
      refine ⟨_, [.int 7, .lst (lines.map .str), .lst (words.map .str), .bl _], rfl, 0, us3, fun us' z => ∃ p : Plan, Mint (n0 + 13 + 200 * i + 150) us' ∧ GoodPlan p ∧ p ≠ [] ∧ p.length ≤ 7 ∧ (∀ r ∈ p, r.length ≤ 3) ∧ z = .new (.lst (p.map eRoom)), ⟨n0 + 13 + 200 * i + 2, 7, lines, words, _, by omega, hm3, by omega, by omega, List.ne_nil_of_length_pos (by omega), List.ne_nil_of_length_pos (by omega), by omega, by omega, hl2n, hw3n, rfl, fun us' p h1 h2 h3 h4 h5 => ⟨p, h1.mono (by omega), h2, h3, h4, h5, rfl⟩⟩, .inr ⟨rfl, ?_⟩⟩
      rintro us4 _ ⟨p, hm4, gp, np, lp, rp, rfl⟩ p5
      refine gt_name all_in ?_
      have lnp := List.length_pos_iff.mpr np
      refine es_seqJ (fun δ => ∃ (us : OW) (pq : Addr) (q : Plan) (x5 x6 x7 x8 x9 : SV), Mint (n0 + 13 + 200 * i + 160) us ∧ GoodPlan q ∧ q ≠ [] ∧ q.length ≤ 7 ∧ (∀ r ∈ q, r.length ≤ 3) ∧ δ = [.arg m us, .d (.lst (ls.map .str)), .d tt, .d (.lst (lines.map .str)), .own pq (.lst (q.map eRoom)), x5, x6, x7, x8, x9, x10, x11, .no]) ?_ ?_
      · refine es_if ?_
        walk_at "e"
        refine ev_coin ?_
        walk_at "e"
        refine ⟨_, us4, n0 + 13 + 200 * i + 150, 2, rfl, rfl, hm4, by omega, by decide, small (by decide), fun us5 r hm5 hr1 hr2 => ⟨_, Pu.d, ?_⟩⟩
        walk_at "e"
        refine o2_eqI ⟨_, rfl, ?_⟩
        refine ite2 (fun _ => ?_) (fun _ => es_next ⟨us5, p5, p, _, _, _, _, _, hm5.mono (by omega), gp, np, lp, rp, rfl⟩)
        refine es_seq ?_
        refine es_asg (ev_sl ?_)
        walk_at "e"
        refine os_L (LstV.o ⟨4, .inl rfl⟩) fun p6 => ?_
        rw [ct6, ← List.map_take]
        refine gt_name all_in ?_
        have gq : GoodPlan (p.take 6) ∨ True := .inr trivial
        have hq1 : ∀ r ∈ p.take 6, r ∈ p := fun r hr => List.mem_of_mem_take hr
        have hqn : (p.take 6).length ≤ 6 := by rw [List.length_take]; omega
        have hq0 : 1 ≤ (p.take 6).length := by rw [List.length_take]; omega
        have hqr : ∀ r ∈ p.take 6, r.length ≤ 3 := fun r hr => rp r (hq1 r hr)
        have hqg : ∀ r ∈ p.take 6, r.length < sizeLine ∧ (∀ s ∈ r, ∃ n : Nat, GoodStep n s) ∧ (r.map kyOf).Nodup := fun r hr => ⟨(gp.2 r (hq1 r hr)).1, fun s hs => ⟨_, (gp.2 r (hq1 r hr)).2.1 s hs⟩, (gp.2 r (hq1 r hr)).2.2⟩
        clear gq
        generalize p.take 6 = qp at hq1 hqn hq0 hqr hqg
        refine es_seq ?_
        walk_at "e"
        refine ulen_L (LstV.o ⟨4, .inl rfl⟩) ?_
        rw [List.length_map]
        refine gt_name all_in ?_
        refine es_seq ?_
        walk_at "e"
        refine ⟨[], rfl, by decide, fun p7 => ?_⟩
        refine gt_name all_in ?_
        refine es_seqJ (fun δ => ∃ (x7 : SV), δ = [.arg m us5, .d (.lst (ls.map .str)), .d tt, .d (.lst (lines.map .str)), .own p6 (.lst (qp.map eRoom)), .d (.int (qp.length : Nat)), .own p7 (.lst ((capP (qp.length : Nat) qp).map eRoom)), x7, x8, x9, x10, x11, .no]) ?_ ?_
        · refine es_forI (ei_O ?_)
          walk_at "e"
          refine ⟨p6, _, rfl, ⟨4, .inl rfl⟩, fun j δ => ∃ (x7 : SV), δ = [.arg m us5, .d (.lst (ls.map .str)), .d tt, .d (.lst (lines.map .str)), .own p6 (.lst (qp.map eRoom)), .d (.int (qp.length : Nat)), .own p7 (.lst ((capP (qp.length : Nat) (qp.take j)).map eRoom)), x7, x8, x9, x10, x11, .no], ⟨_, rfl⟩, ?_, ?_, ?_⟩
          · rintro j δ ⟨x7, rfl⟩; exact ⟨4, .inl rfl⟩
          · rintro j t δ htj ⟨x7, rfl⟩
            rw [List.getElem?_map] at htj
            obtain ⟨r, hr', rfl⟩ := Option.map_eq_some_iff.mp htj
            have hrm := List.mem_of_getElem? hr'
            have hrz := hqr r hrm
            refine gt_name all_in ?_
            refine es_append ?_
            walk_at "e"
            refine ⟨⟨_, 6, .inl rfl⟩, ?_⟩
            refine ev_lcI (ei_L ?_)
            walk_at "e"
            refine ⟨by rw [List.length_map]; omega, fun u acc δ => acc = ((r.take u).map (capS (qp.length : Nat))).map eS ∧ δ = [.arg m us5, .d (.lst (ls.map .str)), .d tt, .d (.lst (lines.map .str)), .own p6 (.lst (qp.map eRoom)), .d (.int (qp.length : Nat)), .own p7 (.lst ((capP (qp.length : Nat) (qp.take j)).map eRoom)), .d (eRoom r), x8, x9, x10, x11, .no], ⟨by simp, rfl⟩, fun _ _ _ _ => trivial, ?_, ?_⟩
            · rintro u t acc δ htu _ ⟨rfl, rfl⟩
              rw [List.getElem?_map] at htu
              obtain ⟨st, hst, rfl⟩ := Option.map_eq_some_iff.mp htu
              obtain ⟨s1, s2, s3, s4⟩ := st
              walk_at "d"
              refine ite2 (fun _ => ?_) (fun h => nomatch h)
              walk_at "d"
              refine ⟨[.str s1, .str s2, .str s3, .int (if (qp.length : Int) - 1 < s4 then (qp.length : Int) - 1 else s4)], rfl, (show 4 ≤ sizeLine by omega), _, Pu.d, ?_, rfl⟩
              rw [List.take_add_one, hst]; simp [capS, eS]
            · rintro acc δ _ ⟨rfl, rfl⟩ p8
              rw [List.length_map, List.take_length]
              refine ⟨_, Pu.fr, ?_⟩
              refine appO 6 (ts := (capP (qp.length : Nat) (qp.take j)).map eRoom) rfl (by unfold capP; rw [List.length_map, List.length_map, List.length_take]; omega) ?_
              refine ⟨.d (eRoom r), ?_⟩
              have hnx : (capP (qp.length : Nat) (qp.take (j + 1))).map eRoom = (capP (qp.length : Nat) (qp.take j)).map eRoom ++ [.lst ((r.map (capS (qp.length : Nat))).map eS)] := by
                rw [List.take_add_one, hr']; simp [capP, eRoom]
              rw [hnx]; rfl
          · rintro δ ⟨x7, rfl⟩
            rw [List.length_map, List.take_length]
            exact ⟨_, rfl⟩
        · rintro δ ⟨x7, rfl⟩
          refine es_seq ?_
          refine es_asg (ev_take (i := 6) (by rfl) ?_)
          refine gt_name all_in ?_
          refine es_seq ?_
          refine es_asg (ev_op (ev_var (by rfl) ⟨_, Pu.d, ev_coin ?_⟩))
          walk_at "e"
          refine ⟨_, us5, n0 + 13 + 200 * i + 151, 2, rfl, rfl, hm5, by omega, by decide, small (by decide), fun us6 r6 hm6 hr3 hr4 => ⟨_, Pu.d, ?_⟩⟩
          obtain ⟨r6, rfl⟩ := Int.eq_ofNat_of_zero_le hr3
          have h6 : r6 < ls.length := by omega
          have h3 : 3 < ls.length := by omega
          refine uix_m (f := T.str) (l := ls) LstV.d h6 ?_
          have hn6 := hln _ (List.getElem_mem h6)
          have hn3 := hln _ (List.getElem_mem h3)
          generalize ls[r6] = line at hn6
          generalize hz3 : ls[3] = word at hn3
          refine gt_name all_in ?_
          refine es_seq ?_
          refine es_append ?_
          walk_at "e"
          refine ⟨⟨_, 4, .inl rfl⟩, ?_⟩
          refine ev_lst (ea_cons (ev_tup ?_))
          walk_at "e"
          refine uix_m (f := T.str) (l := ls) (j := 3) LstV.d h3 ?_
          rw [hz3]
          walk_at "e"
          refine ⟨[.str "!", .str line, .str word, .int 0], rfl, (show 4 ≤ sizeLine by omega), ?_⟩
          walk_at "e"
          refine uix_m (f := T.str) (l := ls) (j := 3) LstV.d h3 ?_
          rw [hz3]
          walk_at "e"
          refine ⟨[.str "?", .str line, .str word, .int 0], rfl, (show 4 ≤ sizeLine by omega), ?_⟩
          walk_at "e"
          refine ⟨(bothP line word).map eS, rfl, (show 2 ≤ sizeLine by omega), fun p8 => ⟨_, Pu.fr, ?_⟩⟩
          have hcl : (capP (qp.length : Nat) qp).length = qp.length := by unfold capP; rw [List.length_map]
          refine appO 4 (ts := (capP (qp.length : Nat) qp).map eRoom) rfl (by rw [List.length_map]; omega) ?_
          have e2 : (capP (qp.length : Nat) qp).map eRoom ++ [.lst ((bothP line word).map eS)] = (capP (qp.length : Nat) qp ++ [bothP line word]).map eRoom := by rw [List.map_append]; rfl
          rw [e2]
          have lq2 : (capP (qp.length : Nat) qp ++ [bothP line word]).length = qp.length + 1 := by rw [List.length_append, hcl]; rfl
          have gq2 : GoodPlan (capP (qp.length : Nat) qp ++ [bothP line word]) := by
            refine ⟨by rw [lq2]; omega, fun r hr => ?_⟩
            rw [lq2]
            rcases List.mem_append.mp hr with hr | hr
            · exact good_cap (k := p.length) (fun r hr => gp.2 r (hq1 r hr)) hq0 (Nat.lt_succ_self _) r hr
            · rw [List.mem_singleton] at hr; subst hr
              exact good_both (by omega) hn6 hn3
          have rq2 : ∀ r ∈ capP (qp.length : Nat) qp ++ [bothP line word], r.length ≤ 3 := fun r hr => by
            rcases List.mem_append.mp hr with hr | hr
            · obtain ⟨r0, hr0, rfl⟩ := List.mem_map.mp hr
              rw [List.length_map]; exact hqr r0 hr0
            · rw [List.mem_singleton] at hr; subst hr; exact (show 2 ≤ 3 by decide)
          generalize capP (qp.length : Nat) qp ++ [bothP line word] = q2 at gq2 lq2 rq2
          refine es_seq ?_
          refine es_asg (ev_coin ?_)
          walk_at "e"
          refine ⟨_, us6, n0 + 13 + 200 * i + 152, (qp.length : Nat), rfl, rfl, hm6, by omega, by omega, small (by omega), fun us7 at_ hm7 ha1 ha2 => ?_⟩
          obtain ⟨at_, rfl⟩ := Int.eq_ofNat_of_zero_le ha1
          have ha3 : at_ < q2.length := by omega
          have nq2 : q2 ≠ [] := by intro e; rw [e] at ha3; simp at ha3
          refine gt_name all_in ?_
          have hat : atI (q2.map eRoom) (at_ : Int) = some (eRoom q2[at_]) := atI_nat (by simp [ha3])
          have hrm := List.getElem_mem ha3
          have hrg := gq2.2 _ hrm
          refine es_if (et_and (et_val (ev_op (ev_op ?_))))
          walk_at "e"
          refine uix_L (LstV.o ⟨4, .inl rfl⟩) hat ⟨_, Pu.d, ?_⟩
          walk_at "e"
          refine ⟨[], rfl, (show 0 ≤ sizeLine by omega), fun p9 => ⟨_, Pu.fr, ?_⟩⟩
          have shr : ∀ r : Room, (∀ s ∈ r, okS s) → SeqAt.shaped (dRoom r) = true := fun r h => shaped_of (dRoom_lay h) (Nat.le_trans (dRoom_depth r) (by decide))
          refine o2_ne (t := eRoom q2[at_]) (u := eRoom []) (eRoom_py _) (eRoom_py []) (shr _ fun s hs => (hrg.2.1 s hs).ok) (shr _ fun s hs => by cases hs) (dRoom_eqv _ []) ⟨_, rfl, ?_⟩
          by_cases hemp : q2[at_] = []
          · rw [decide_eq_true hemp]
            refine ite2 (fun h => nomatch h) (fun _ => ?_)
            exact es_next ⟨us7, p7, q2, _, _, _, _, _, hm7.mono (by omega), gq2, nq2, by omega, rq2, rfl⟩
          · rw [decide_eq_false hemp]
            refine ite2 (fun _ => ?_) (fun h => absurd rfl h)
            walk_at "e"
            refine ev_coin ?_
            walk_at "e"
            refine ⟨_, us7, n0 + 13 + 200 * i + 153, 2, rfl, rfl, hm7, by omega, by decide, small (by decide), fun us8 r8 hm8 hr5 hr6 => ⟨_, Pu.d, ?_⟩⟩
            walk_at "e"
            refine o2_eqI ⟨_, rfl, ?_⟩
            refine ite2 (fun _ => ?_) (fun _ => es_next ⟨us8, p7, q2, _, _, _, _, _, hm8.mono (by omega), gq2, nq2, by omega, rq2, rfl⟩)
            have hne2 : (q2[at_].map eS) ≠ [] := fun e => hemp (List.map_eq_nil_iff.mp e)
            generalize hlast : q2[at_].getLast hemp = last
            have hlt : atI (q2[at_].map eS) (-1) = some (eS last) := by rw [at_last hne2, List.getLast_map, hlast]
            obtain ⟨l1, l2, l3, l4⟩ := last
            have hsl : setLast (qp.length : Nat) q2[at_] = q2[at_].dropLast ++ [(l1, l2, l3, ((qp.length : Nat) : Int))] := by
              unfold setLast
              rw [List.getLast?_eq_some_getLast hemp, hlast]
            unfold eS at hlt
            dsimp only at hlt
            refine es_sub (ev_op (ev_sl ?_))
            walk_at "e"
            refine uix_L (LstV.o ⟨4, .inl rfl⟩) hat ?_
            walk_at "e"
            refine o1_neg ⟨_, rfl, os_L LstV.d fun p10 => ?_⟩
            rw [cut_last]
            refine ⟨_, Pu.fr, ev_lst (ea_cons (ev_tup ?_))⟩
            walk_at "e"
            refine uix_L (LstV.o ⟨4, .inl rfl⟩) hat ?_
            walk_at "e"
            refine o1_neg ?_
            walk_at "e"
            refine uix_L LstV.d hlt ?_
            walk_at "e"
            refine uix_L (LstV.o ⟨4, .inl rfl⟩) hat ?_
            walk_at "e"
            refine o1_neg ?_
            walk_at "e"
            refine uix_L LstV.d hlt ?_
            walk_at "e"
            refine uix_L (LstV.o ⟨4, .inl rfl⟩) hat ?_
            walk_at "e"
            refine o1_neg ?_
            walk_at "e"
            refine uix_L LstV.d hlt ?_
            walk_at "e"
            refine ⟨[.str l1, .str l2, .str l3, .int (qp.length : Nat)], rfl, (show 4 ≤ sizeLine by omega), ?_⟩
            walk_at "e"
            refine ⟨[.tup [.str l1, .str l2, .str l3, .int (qp.length : Nat)]], rfl, (show 1 ≤ sizeLine by omega), fun p11 => ⟨_, Pu.fr, ?_⟩⟩
            have hrl := rq2 _ hrm
            refine o2_cat LstV.d LstV.d (by rw [List.length_dropLast, List.length_map]; show _ + 1 ≤ _; omega) fun p12 => ⟨_, Pu.fr, ?_⟩
            refine ev_ptr (a := p7) (.inl (by rfl)) ⟨_, Pu.ptr, ev_var (by rfl) ⟨_, Pu.d, ?_⟩⟩
            have hix : ixN (q2.map eRoom).length (at_ : Int) = some at_ := by
              unfold ixN
              rw [List.length_map]
              simp [ha3]
            refine o3_O 4 (ts := q2.map eRoom) rfl hix ?_
            have hel : T.lst ((q2[at_].map eS).dropLast ++ [.tup [.str l1, .str l2, .str l3, .int (qp.length : Nat)]]) = eRoom (setLast (qp.length : Nat) q2[at_]) := by
              rw [hsl, ← List.map_dropLast]; simp [eRoom, eS]
            rw [hel, ← List.map_set]
            have gl : GoodRoom (q2.set at_ (setLast (qp.length : Nat) q2[at_])).length (setLast (qp.length : Nat) q2[at_]) := by
              rw [List.length_set]
              exact good_last (by omega) hrg
            refine ⟨us8, p7, q2.set at_ (setLast (qp.length : Nat) q2[at_]), _, _, _, _, _, hm8.mono (by omega), ⟨by rw [List.length_set]; exact gq2.1, fun r hr => ?_⟩, ?_, by rw [List.length_set]; omega, fun r hr => ?_, rfl⟩
            · rcases List.mem_or_eq_of_mem_set hr with h | h
              · rw [List.length_set]; exact gq2.2 r h
              · rw [h]; exact gl
            · intro e
              have := congrArg List.length e
              rw [List.length_set, List.length_nil] at this
              omega
            · rcases List.mem_or_eq_of_mem_set hr with h | h
              · exact rq2 r h
              · rw [h, setLast_len]; exact hrl
      · rintro δ ⟨us5, pq, qq, x5, x6, x7, x8, x9, hm5, gq, nq, lq, rq, rfl⟩
        refine es_frz (i := 4) rfl rfl ?_
        refine es_seq ?_
        refine es_parG (by decide) (ea_cons (ev_callPn (ea_cons (ev_var (by rfl) ⟨_, Pu.d, ea_nil ?_⟩))))
        refine ⟨[ePlan qq], rfl, qq, gq, nq, rfl, fun z hz => ⟨_, Pu.d, ea_cons (ev_callPn (ea_cons (ev_callPn (ea_cons (ev_var (by rfl) ⟨_, Pu.d, ea_nil ?_⟩)))))⟩⟩
        have Tz := (hz.isLeast gq nq).lst
        have zl := (hz.good gq nq).2.2
        have zr := hz.rooms gq nq
        refine ⟨[ePlan qq], rfl, qq, gq, nq, by omega, rfl, fun y hy hyl a => ⟨_, Pu.fr, ea_nil ?_⟩⟩
        obtain rfl : z = y := Tz.unique hy.lst
        have zr3 : ∀ r ∈ z, r.length ≤ 3 := fun r hr => by
          obtain ⟨r', hr', e⟩ := zr r hr
          rw [e]; exact rq r' hr'
        refine ⟨[ePlan z], rfl, z, by omega, fun r hr => Nat.le_trans (zr3 r hr) (by decide), rfl, fun b hb => ⟨_, Pu.d, ea_nil ⟨_, _, rfl, .d, .d, ?_⟩⟩⟩
        have hU : (linesP z).length < 64 := by
          have := linesP_len2 zr3
          omega
        refine es_if (et_val (ev_op (ev_cb (ea_cons (ev_lst (ea_cons (ev_callPn (ea_cons (ev_var (by rfl) ⟨_, Pu.d, ea_nil ?_⟩)))))))))
        refine ⟨[objS C z], rfl, z, linesP z, Tz.good, hU, fun _ h => h, rfl, fun b1 hb1 => ⟨_, Pu.d, ea_cons (ev_callKP gv_one (ea_cons (ev_var (by rfl) ⟨_, Pu.d, ea_nil ?_⟩)))⟩⟩
        refine ⟨[objS C z], rfl, z, linesP z, Tz.good, hU, fun _ h => h, rfl, fun b2 hb2 => ⟨_, Pu.d, ea_nil ?_⟩⟩
        obtain rfl : b1 = b := by rw [Bool.eq_iff_iff, hb1, hb]
        obtain rfl : b2 = b1 := by rw [Bool.eq_iff_iff, hb2, hb1]
        have sbl : ∀ b : Bool, ShowOk (.list [.bool b, .bool b]) := fun b => show_bls [b, b] (show 2 ≤ 100 by decide)
        refine ⟨[.bl b2, .bl b2], rfl, (show 2 ≤ sizeLine by omega), fun p6 => ⟨_, Pu.fr, ea_nil ?_⟩⟩
        refine oa_repr (d := .list [.bool b2, .bool b2]) rfl (sbl _) ⟨_, Pu.d, ?_⟩
        refine ev_cb (ea_cons (ev_lst (ea_cons (ev_var (by rfl) ⟨_, Pu.d, ea_cons (ev_var (by rfl) ⟨_, Pu.d, ea_nil ?_⟩)⟩))))
        refine ⟨[.bl b2, .bl b2], rfl, (show 2 ≤ sizeLine by omega), fun p7 => ⟨_, Pu.fr, ea_nil ?_⟩⟩
        refine oa_repr (d := .list [.bool b2, .bool b2]) rfl (sbl _) ⟨_, Pu.d, ?_⟩
        refine o2_neS ⟨_, rfl, ?_⟩
        rw [decide_eq_true rfl]
        refine ite2 (fun h => nomatch h) (fun _ => ?_)
        exact es_next ⟨us5, _, _, _, _, _, _, _, _, _, _, hm5.mono (by omega), rfl⟩
    · rintro δ ⟨us, x2, x3, x4, x5, x6, x7, x8, x9, x10, x11, hm, rfl⟩
      refine es_ret (ev_bl ?_)
      exact ⟨us, rfl, hk us (hm.mono (by omega))⟩
end
end K

namespace K
open PySem L2 DL
local macro_rules | `(tactic| walk_at "dl") => `(tactic| with_reducible first
  | refine es_if ?_ | refine es_append ?_ | refine es_sub ?_ | refine es_par3 ?_ | refine es_parD ?_ | refine es_asg ?_ | refine es_ret ?_ | refine es_retN ?_ | refine es_next ?_ | refine es_drop ?_ | refine es_break ?_ | refine es_cont ?_
  | refine et_val ?_ | refine et_B ?_ | refine et_not ?_ | refine et_and ?_ | refine et_or ?_ | refine et_yes ?_
  | refine ev_op ?_ | refine ev_un ?_ | refine ev_cb ?_ | refine ev_tup ?_ | refine ev_lst ?_ | refine ev_ifx ?_ | refine ev_andV ?_ | refine ev_orV ?_ | refine ev_notV ?_ | refine ev_sl ?_
  | refine ea_cons ?_ | refine ea_nil ?_ | refine ev_int ?_ | refine ev_str ?_ | refine ev_bl ?_ | refine ev_non ?_ | refine eo_none ?_ | refine eo_some ?_
  | refine gts_cons ?_ | refine gts_nil ?_
  | refine o2_addI ?_ | refine o2_ltI ?_ | refine o2_leI ?_ | refine o2_gtI ?_ | refine o2_geI ?_ | refine o2_ltS ?_ | refine o2_leS ?_ | refine o2_gtS ?_ | refine o2_sub ?_
  | refine oa_intI ?_ | refine oa_intB ?_ | refine oa_abs ?_ | refine oa_two ?_ | refine ulen_R ?_ | refine ulen_T ?_ | refine ulen_L LstV.d ?_
  | (refine ⟨_, Pu.d, ?_⟩) | (refine ⟨_, Pu.ptr, ?_⟩) | (refine ⟨_, Pu.fr, ?_⟩))
local macro_rules | `(tactic| walk_at "dv") => `(tactic| first
  | refine ev_var (by rfl) ?_ | refine ev_ptr (.inl (by rfl)) ?_ | refine ev_ptr (.inr (.inl (by rfl))) ?_ | refine ev_ptr (.inr (.inr (by rfl))) ?_
  | refine uix_L (LstV.o ⟨0, .inr (by rfl)⟩) (by rfl) ?_ | refine uix_L LstV.d (by rfl) ?_ | refine uix_T (by rfl) ?_
  | refine gt_tup (by rfl) ?_ | refine gt_name (by first | exact all_in | simp) ?_ | refine ⟨_, rfl, ?_⟩)
local macro_rules | `(tactic| walk_at "e") => `(tactic| repeat (first | walk_at "dl" | walk_at "dv"))
local macro_rules | `(tactic| walk_at "d") => `(tactic| repeat (first | with_reducible refine es_seq ?_ | walk_at "dl" | walk_at "dv"))
section
variable {P : Program} {w : World} {K : PySem.W.Frag} {mg : Str → Option Value} {base : Heap}
/-- the law: of at most 63 numbers it gives True -/
def spLaw (K : PySem.W.Frag) : Sp := fun vs H Q _ => ∃ (a : Addr) (ns : List Int), vs = [.ref a] ∧ SqL K H a (ns.map V.int) ∧ ns.length ≤ 63 ∧ ∀ H', Q (.bl true) H'
abbrev s_law : Stmt := topS 42
abbrev N_law : List Str := ["script", "place", "mint", "turn"]
theorem sc_law : FnScope N_law ["script"] (defScope s_law) := ⟨rfl, rfl, rfl, by decide +kernel, rfl, by decide +kernel, by decide +kernel⟩

theorem dvs_ints {B : Bs} {F : Hp} : ∀ ns : List Int, DVs B F (ns.map V.int) (ns.map T.int)
  | [] => .nil
  | n :: ns => .cons (by simp only [DV]) (dvs_ints ns)
theorem ok_law {f : Addr} {fd : FuncData} (Fn : Fun K "law" "law" s_law f fd) (TX : TXF mg)
    (C_law_mint : Cal P w K mg base CX0 "_law_mint" 1 ["script", "place"] (spP ⟨P, w, K⟩ SMint))
    (C_law_fits : CalG P w K mg base "_law_fits" 8 ["mint"] (spM ⟨P, w, K⟩ SFits)) : FnG P w K mg base 9 f fd ["script"] (spLaw K) := by
  refine FnG.make Fn sc_law (fun vs H Q E h => ?_) (fun cdv A outer s H vs Q E gd hr h => ?_)
  · obtain ⟨a, ns, rfl, _⟩ := h
    rfl
  · obtain ⟨a, ns, rfl, hS, hn, hk⟩ := h
    have hu := hr.units
    refine ⟨_, (pss_cons (ps_for PassesOwn.never rfl (pi_range1 (by rfl) TX.n_range (pa_cons (pe_callB (call_max2' rfl) (by rfl) TX.n_max (by decide +kernel) (pa_cons pe_int (pa_cons (pe_callB (call_min2' rfl) (by rfl) TX.n_min (by decide +kernel) (pa_cons pe_int (pa_cons (pe_callB (call_lenB ⟨P, w, K⟩ rfl hu) (by rfl) TX.n_len (by decide +kernel) (pa_cons (pv 0) pa_nil)) pa_nil))) pa_nil))) pa_nil)) (pg_name (i := 1) sc_law.nd rfl (Or.inl rfl)) (pss_cons (ps_set (i := 2) sc_law.nd rfl (Or.inl rfl) (pe_call C_law_mint.ok (hr.mono (by decide)) (by rfl) C_law_mint.mg C_law_mint.kp C_law_mint.bd .nil pass0 (pa_cons (pv 0) (pa_cons (pv 1) pa_nil))))
    (pss_one (ps_for PassesOwn.never rfl (pi_range1 (by rfl) TX.n_range (pa_cons pe_int pa_nil)) (pg_name (i := 3) sc_law.nd rfl (Or.inl rfl)) (pss_one (ps_if (pt_not (pt_val (pe_callG C_law_fits.ok gd (hr.mono (by decide)) (by rfl) C_law_fits.mg C_law_fits.kp C_law_fits.bd (pa_cons (pv 2) pa_nil)))) (pss_one (ps_ret pe_bl)) pss_nil))))))
    (pss_one (ps_ret pe_bl))), ?_⟩
    refine run_P (B := ⟨P, w, K⟩) (F := H) (ts := [.rl (ns.map T.int)]) (P := fun r => r = .d (.bl true)) (n := 3) (Ex.refl H) (.cons (by simp only [DV]; exact ⟨a, _, rfl, hS, dvs_ints ns⟩) .nil) rfl (fun r v H' F' e A => ?_) ?_
    · subst e
      have hv : DV ⟨P, w, K⟩ F' v (.bl true) := A.res
      rw [DV.bl_ hv]
      exact hk H'
    refine es_seqJ (fun δ => ∃ x y z, δ = [.d (.rl (ns.map T.int)), x, y, z]) ?_ ?_
    · refine es_forI (ei_R (ea_cons (ev_cb ?_)))
      walk_at "e"
      refine ⟨(if (if ((ns.map T.int).length : Int) < 24 then ((ns.map T.int).length : Int) else 24) > 1 then (if ((ns.map T.int).length : Int) < 24 then ((ns.map T.int).length : Int) else 24) else 1).toNat, ?_, ?_, fun i δ => ∃ x y z, δ = [.d (.rl (ns.map T.int)), x, y, z], ⟨_, _, _, rfl⟩, fun _ _ _ => trivial, ?_, fun δ h => h⟩
      · rw [Int.toNat_of_nonneg]
        split <;> (try split) <;> omega
      · have : (if (if ((ns.map T.int).length : Int) < 24 then ((ns.map T.int).length : Int) else 24) > 1 then (if ((ns.map T.int).length : Int) < 24 then ((ns.map T.int).length : Int) else 24) else 1) ≤ 24 := by split <;> (try split) <;> omega
        omega
      rintro i t δ ht ⟨x, y, z, rfl⟩
      obtain ⟨hi, et⟩ := List.getElem?_eq_some_iff.mp ht
      rw [List.length_map, List.length_range] at hi
      have hi2 : i < 1000 := by
        have : (if (if ((ns.map T.int).length : Int) < 24 then ((ns.map T.int).length : Int) else 24) > 1 then (if ((ns.map T.int).length : Int) < 24 then ((ns.map T.int).length : Int) else 24) else 1) ≤ 24 := by split <;> (try split) <;> omega
        omega
      have et : t = .int (i : Nat) := by simpa using et.symm
      subst et
      refine gt_name all_in ?_
      refine es_seq ?_
      refine es_asg (ev_callPn ?_)
      walk_at "e"
      refine ⟨[.rl (ns.map T.int), .int i], rfl, ns, i, hn, hi2, rfl, fun us hus p1 => ?_⟩
      refine gt_name all_in ?_
      refine es_forI (ei_R (ea_cons (ev_int ⟨_, Pu.d, ea_nil ?_⟩)))
      refine ⟨1, rfl, by decide, fun j δ => ∃ (us : OW) (z : SV), Mint (5000 * j) us ∧ δ = [.d (.rl (ns.map T.int)), .d (.int i), .own p1 us, z], ⟨us, _, hus, rfl⟩, fun _ _ _ => trivial, ?_, fun δ ⟨us, z, _, e⟩ => ⟨_, _, _, e⟩⟩
      rintro j t δ ht ⟨us, z, hm, rfl⟩
      have hj : j < 1 := by
        have := (List.getElem?_eq_some_iff.mp ht).1
        simpa using this
      refine gt_name all_in ?_
      refine es_if (et_not (et_val (ev_callM ?_)))
      walk_at "e"
      refine ⟨_, [], rfl, 2, us, fun us' r => Mint (5000 * j + 5000) us' ∧ r = .d (.bl true), ⟨5000 * j, by omega, hm, rfl, fun us' h => ⟨h, rfl⟩⟩, .inl ⟨rfl, ?_⟩⟩
      rintro us' _ ⟨hm', rfl⟩
      refine ⟨_, rfl, ?_⟩
      refine ite2 (fun h => nomatch h) (fun _ => ?_)
      exact es_next ⟨us', _, hm'.mono (by omega), rfl⟩
    · rintro δ ⟨x, y, z, rfl⟩
      walk_at "e"
      rfl
end
end K

namespace K
open PySem L2 DL
theorem all_mk {l : PySem.W.OpenLaw} {w : World} {K : PySem.W.Frag} {h : Heap} {mg : Str → Option Value} {fa : Addr} (X : K.In h) (G : h.Ns mainGlobals mg) (hfa : mg "law" = some (.ref fa))
    {C_Service : Addr}
    {f_is_index : Addr} {od_is_index an_is_index : Option Addr} {sl_is_index : Array (Option Value)} {oc_is_index kV_is_index dc_is_index pm_is_index cd_is_index ct_is_index : Value}
    {f_is_name : Addr} {od_is_name an_is_name : Option Addr} {sl_is_name : Array (Option Value)} {oc_is_name kV_is_name dc_is_name pm_is_name cd_is_name ct_is_name : Value}
    {f_check_step : Addr} {od_check_step an_check_step : Option Addr} {sl_check_step : Array (Option Value)} {oc_check_step kV_check_step dc_check_step pm_check_step cd_check_step ct_check_step : Value}
    {f_next_rooms : Addr} {od_next_rooms an_next_rooms : Option Addr} {sl_next_rooms : Array (Option Value)} {oc_next_rooms kV_next_rooms dc_next_rooms pm_next_rooms cd_next_rooms ct_next_rooms : Value}
    {f_check_rooms : Addr} {od_check_rooms an_check_rooms : Option Addr} {sl_check_rooms : Array (Option Value)} {oc_check_rooms kV_check_rooms dc_check_rooms pm_check_rooms cd_check_rooms ct_check_rooms : Value}
    {f_split_groups : Addr} {od_split_groups an_split_groups : Option Addr} {sl_split_groups : Array (Option Value)} {oc_split_groups kV_split_groups dc_split_groups pm_split_groups cd_split_groups ct_split_groups : Value}
    {f_alike_groups : Addr} {od_alike_groups an_alike_groups : Option Addr} {sl_alike_groups : Array (Option Value)} {oc_alike_groups kV_alike_groups dc_alike_groups pm_alike_groups cd_alike_groups ct_alike_groups : Value}
    {f_numbered_rooms : Addr} {od_numbered_rooms an_numbered_rooms : Option Addr} {sl_numbered_rooms : Array (Option Value)} {oc_numbered_rooms kV_numbered_rooms dc_numbered_rooms pm_numbered_rooms cd_numbered_rooms ct_numbered_rooms : Value}
    {f_least_rooms : Addr} {od_least_rooms an_least_rooms : Option Addr} {sl_least_rooms : Array (Option Value)} {oc_least_rooms kV_least_rooms dc_least_rooms pm_least_rooms cd_least_rooms ct_least_rooms : Value}
    {f_Service___init__ : Addr} {od_Service___init__ an_Service___init__ : Option Addr} {sl_Service___init__ : Array (Option Value)} {oc_Service___init__ kV_Service___init__ dc_Service___init__ pm_Service___init__ cd_Service___init__ ct_Service___init__ : Value}
    {f_Service_rooms : Addr} {od_Service_rooms an_Service_rooms : Option Addr} {sl_Service_rooms : Array (Option Value)} {oc_Service_rooms kV_Service_rooms dc_Service_rooms pm_Service_rooms cd_Service_rooms ct_Service_rooms : Value}
    {f_Service_lines : Addr} {od_Service_lines an_Service_lines : Option Addr} {sl_Service_lines : Array (Option Value)} {oc_Service_lines kV_Service_lines dc_Service_lines pm_Service_lines cd_Service_lines ct_Service_lines : Value}
    {f_is_plain : Addr} {od_is_plain an_is_plain : Option Addr} {sl_is_plain : Array (Option Value)} {oc_is_plain kV_is_plain dc_is_plain pm_is_plain cd_is_plain ct_is_plain : Value}
    {f_law_mint : Addr} {od_law_mint an_law_mint : Option Addr} {sl_law_mint : Array (Option Value)} {oc_law_mint kV_law_mint dc_law_mint pm_law_mint cd_law_mint ct_law_mint : Value}
    {f_law_coin : Addr} {od_law_coin an_law_coin : Option Addr} {sl_law_coin : Array (Option Value)} {oc_law_coin kV_law_coin dc_law_coin pm_law_coin cd_law_coin ct_law_coin : Value}
    {f_law_labels : Addr} {od_law_labels an_law_labels : Option Addr} {sl_law_labels : Array (Option Value)} {oc_law_labels kV_law_labels dc_law_labels pm_law_labels cd_law_labels ct_law_labels : Value}
    {f_law_room_steps : Addr} {od_law_room_steps an_law_room_steps : Option Addr} {sl_law_room_steps : Array (Option Value)} {oc_law_room_steps kV_law_room_steps dc_law_room_steps pm_law_room_steps cd_law_room_steps ct_law_room_steps : Value}
    {f_law_plan_of : Addr} {od_law_plan_of an_law_plan_of : Option Addr} {sl_law_plan_of : Array (Option Value)} {oc_law_plan_of kV_law_plan_of dc_law_plan_of pm_law_plan_of cd_law_plan_of ct_law_plan_of : Value}
    {f_law_made_service : Addr} {od_law_made_service an_law_made_service : Option Addr} {sl_law_made_service : Array (Option Value)} {oc_law_made_service kV_law_made_service dc_law_made_service pm_law_made_service cd_law_made_service ct_law_made_service : Value}
    {f_law_goal : Addr} {od_law_goal an_law_goal : Option Addr} {sl_law_goal : Array (Option Value)} {oc_law_goal kV_law_goal dc_law_goal pm_law_goal cd_law_goal ct_law_goal : Value}
    {f_law_keys : Addr} {od_law_keys an_law_keys : Option Addr} {sl_law_keys : Array (Option Value)} {oc_law_keys kV_law_keys dc_law_keys pm_law_keys cd_law_keys ct_law_keys : Value}
    {f_law_parted : Addr} {od_law_parted an_law_parted : Option Addr} {sl_law_parted : Array (Option Value)} {oc_law_parted kV_law_parted dc_law_parted pm_law_parted cd_law_parted ct_law_parted : Value}
    {f_law_least_plan : Addr} {od_law_least_plan an_law_least_plan : Option Addr} {sl_law_least_plan : Array (Option Value)} {oc_law_least_plan kV_law_least_plan dc_law_least_plan pm_law_least_plan cd_law_least_plan ct_law_least_plan : Value}
    {f_law_own_plain : Addr} {od_law_own_plain an_law_own_plain : Option Addr} {sl_law_own_plain : Array (Option Value)} {oc_law_own_plain kV_law_own_plain dc_law_own_plain pm_law_own_plain cd_law_own_plain ct_law_own_plain : Value}
    {f_law_fits : Addr} {od_law_fits an_law_fits : Option Addr} {sl_law_fits : Array (Option Value)} {oc_law_fits kV_law_fits dc_law_fits pm_law_fits cd_law_fits ct_law_fits : Value}
    {f_law : Addr} {od_law an_law : Option Addr} {sl_law : Array (Option Value)} {oc_law kV_law dc_law pm_law cd_law ct_law : Value}
    {t_SIGNS : Addr} {n_SIGNS : Nat} {od_SIGNS : Option Addr} {sl_SIGNS : Array (Option Value)} {k_SIGNS0 : Tok} {k_SIGNS1 : Tok}
    {k_LONGEST_NAME : Tok}
    {pr_Service_rooms : Addr} {ps_Service_rooms : List Value}
    {pr_Service_lines : Addr} {ps_Service_lines : List Value}
    (a_Service : PySem.W.nsIn K mainGlobals "Service" = some (some (.ref C_Service)))
    (pg_Service : PySem.W.plainGet K C_Service Str.empty = true)
    (hd_Service : PySem.W.hasDictIn K C_Service = true)
    (po_Service : PySem.W.plainOver K C_Service = true)
    (sa_Service : PySem.W.findIn K (.ref C_Service) "__setattr__" = some (some (.builtin "object.__setattr__")))
    (mk_Service : PySem.W.makesIn K C_Service = true)
    (kc_Service : PySem.W.keepIn K (.ref C_Service) = true)
    (na_Service_rooms : PySem.W.findIn K (.ref C_Service) "_rooms" = some none)
    (a_is_index : PySem.W.nsIn K mainGlobals "is_index" = some (some (.ref f_is_index)))
    (l_is_index : K.lookup f_is_index = some ⟨oc_is_index, od_is_index, .func (PySem.W.fnOf "is_index" "is_index" (defArgs s_is_index) (defBody s_is_index) (defScope s_is_index) .none kV_is_index dc_is_index pm_is_index an_is_index cd_is_index ct_is_index), sl_is_index⟩)
    (c_is_index : PySem.W.codeIn K cd_is_index "is_index" = true)
    (k_is_index : PySem.W.keepIn K (.ref f_is_index) = true)
    (a_is_name : PySem.W.nsIn K mainGlobals "is_name" = some (some (.ref f_is_name)))
    (l_is_name : K.lookup f_is_name = some ⟨oc_is_name, od_is_name, .func (PySem.W.fnOf "is_name" "is_name" (defArgs s_is_name) (defBody s_is_name) (defScope s_is_name) .none kV_is_name dc_is_name pm_is_name an_is_name cd_is_name ct_is_name), sl_is_name⟩)
    (c_is_name : PySem.W.codeIn K cd_is_name "is_name" = true)
    (k_is_name : PySem.W.keepIn K (.ref f_is_name) = true)
    (a_check_step : PySem.W.nsIn K mainGlobals "check_step" = some (some (.ref f_check_step)))
    (l_check_step : K.lookup f_check_step = some ⟨oc_check_step, od_check_step, .func (PySem.W.fnOf "check_step" "check_step" (defArgs s_check_step) (defBody s_check_step) (defScope s_check_step) .none kV_check_step dc_check_step pm_check_step an_check_step cd_check_step ct_check_step), sl_check_step⟩)
    (c_check_step : PySem.W.codeIn K cd_check_step "check_step" = true)
    (k_check_step : PySem.W.keepIn K (.ref f_check_step) = true)
    (a_next_rooms : PySem.W.nsIn K mainGlobals "next_rooms" = some (some (.ref f_next_rooms)))
    (l_next_rooms : K.lookup f_next_rooms = some ⟨oc_next_rooms, od_next_rooms, .func (PySem.W.fnOf "next_rooms" "next_rooms" (defArgs s_next_rooms) (defBody s_next_rooms) (defScope s_next_rooms) .none kV_next_rooms dc_next_rooms pm_next_rooms an_next_rooms cd_next_rooms ct_next_rooms), sl_next_rooms⟩)
    (c_next_rooms : PySem.W.codeIn K cd_next_rooms "next_rooms" = true)
    (k_next_rooms : PySem.W.keepIn K (.ref f_next_rooms) = true)
    (a_check_rooms : PySem.W.nsIn K mainGlobals "check_rooms" = some (some (.ref f_check_rooms)))
    (l_check_rooms : K.lookup f_check_rooms = some ⟨oc_check_rooms, od_check_rooms, .func (PySem.W.fnOf "check_rooms" "check_rooms" (defArgs s_check_rooms) (defBody s_check_rooms) (defScope s_check_rooms) .none kV_check_rooms dc_check_rooms pm_check_rooms an_check_rooms cd_check_rooms ct_check_rooms), sl_check_rooms⟩)
    (c_check_rooms : PySem.W.codeIn K cd_check_rooms "check_rooms" = true)
    (k_check_rooms : PySem.W.keepIn K (.ref f_check_rooms) = true)
    (a_split_groups : PySem.W.nsIn K mainGlobals "split_groups" = some (some (.ref f_split_groups)))
    (l_split_groups : K.lookup f_split_groups = some ⟨oc_split_groups, od_split_groups, .func (PySem.W.fnOf "split_groups" "split_groups" (defArgs s_split_groups) (defBody s_split_groups) (defScope s_split_groups) .none kV_split_groups dc_split_groups pm_split_groups an_split_groups cd_split_groups ct_split_groups), sl_split_groups⟩)
    (c_split_groups : PySem.W.codeIn K cd_split_groups "split_groups" = true)
    (k_split_groups : PySem.W.keepIn K (.ref f_split_groups) = true)
    (a_alike_groups : PySem.W.nsIn K mainGlobals "alike_groups" = some (some (.ref f_alike_groups)))
    (l_alike_groups : K.lookup f_alike_groups = some ⟨oc_alike_groups, od_alike_groups, .func (PySem.W.fnOf "alike_groups" "alike_groups" (defArgs s_alike_groups) (defBody s_alike_groups) (defScope s_alike_groups) .none kV_alike_groups dc_alike_groups pm_alike_groups an_alike_groups cd_alike_groups ct_alike_groups), sl_alike_groups⟩)
    (c_alike_groups : PySem.W.codeIn K cd_alike_groups "alike_groups" = true)
    (k_alike_groups : PySem.W.keepIn K (.ref f_alike_groups) = true)
    (a_numbered_rooms : PySem.W.nsIn K mainGlobals "numbered_rooms" = some (some (.ref f_numbered_rooms)))
    (l_numbered_rooms : K.lookup f_numbered_rooms = some ⟨oc_numbered_rooms, od_numbered_rooms, .func (PySem.W.fnOf "numbered_rooms" "numbered_rooms" (defArgs s_numbered_rooms) (defBody s_numbered_rooms) (defScope s_numbered_rooms) .none kV_numbered_rooms dc_numbered_rooms pm_numbered_rooms an_numbered_rooms cd_numbered_rooms ct_numbered_rooms), sl_numbered_rooms⟩)
    (c_numbered_rooms : PySem.W.codeIn K cd_numbered_rooms "numbered_rooms" = true)
    (k_numbered_rooms : PySem.W.keepIn K (.ref f_numbered_rooms) = true)
    (a_least_rooms : PySem.W.nsIn K mainGlobals "least_rooms" = some (some (.ref f_least_rooms)))
    (l_least_rooms : K.lookup f_least_rooms = some ⟨oc_least_rooms, od_least_rooms, .func (PySem.W.fnOf "least_rooms" "least_rooms" (defArgs s_least_rooms) (defBody s_least_rooms) (defScope s_least_rooms) .none kV_least_rooms dc_least_rooms pm_least_rooms an_least_rooms cd_least_rooms ct_least_rooms), sl_least_rooms⟩)
    (c_least_rooms : PySem.W.codeIn K cd_least_rooms "least_rooms" = true)
    (k_least_rooms : PySem.W.keepIn K (.ref f_least_rooms) = true)
    (a_Service___init__ : PySem.W.findIn K (.ref C_Service) "__init__" = some (some (.ref f_Service___init__)))
    (i_Service___init__ : PySem.W.isFn K (.ref f_Service___init__) = true)
    (l_Service___init__ : K.lookup f_Service___init__ = some ⟨oc_Service___init__, od_Service___init__, .func (PySem.W.fnOf "__init__" "Service.__init__" (defArgs s_Service___init__) (defBody s_Service___init__) (defScope s_Service___init__) .none kV_Service___init__ dc_Service___init__ pm_Service___init__ an_Service___init__ cd_Service___init__ ct_Service___init__), sl_Service___init__⟩)
    (c_Service___init__ : PySem.W.codeIn K cd_Service___init__ "Service.__init__" = true)
    (k_Service___init__ : PySem.W.keepIn K (.ref f_Service___init__) = true)
    (a_Service_rooms : PySem.W.findIn K (.ref C_Service) "rooms" = some (some (.ref pr_Service_rooms)))
    (pg_Service_rooms : PySem.W.specialIn K (.ref pr_Service_rooms) "__get__" = some (some (.builtin "property.__get__")))
    (pt_Service_rooms : PySem.W.takesIn K (.ref pr_Service_rooms) = some true)
    (pc_Service_rooms : PySem.W.recIn K pr_Service_rooms "property" = some (.ref f_Service_rooms :: ps_Service_rooms))
    (l_Service_rooms : K.lookup f_Service_rooms = some ⟨oc_Service_rooms, od_Service_rooms, .func (PySem.W.fnOf "rooms" "Service.rooms" (defArgs s_Service_rooms) (defBody s_Service_rooms) (defScope s_Service_rooms) .none kV_Service_rooms dc_Service_rooms pm_Service_rooms an_Service_rooms cd_Service_rooms ct_Service_rooms), sl_Service_rooms⟩)
    (c_Service_rooms : PySem.W.codeIn K cd_Service_rooms "Service.rooms" = true)
    (k_Service_rooms : PySem.W.keepIn K (.ref f_Service_rooms) = true)
    (a_Service_lines : PySem.W.findIn K (.ref C_Service) "lines" = some (some (.ref pr_Service_lines)))
    (pg_Service_lines : PySem.W.specialIn K (.ref pr_Service_lines) "__get__" = some (some (.builtin "property.__get__")))
    (pt_Service_lines : PySem.W.takesIn K (.ref pr_Service_lines) = some true)
    (pc_Service_lines : PySem.W.recIn K pr_Service_lines "property" = some (.ref f_Service_lines :: ps_Service_lines))
    (l_Service_lines : K.lookup f_Service_lines = some ⟨oc_Service_lines, od_Service_lines, .func (PySem.W.fnOf "lines" "Service.lines" (defArgs s_Service_lines) (defBody s_Service_lines) (defScope s_Service_lines) .none kV_Service_lines dc_Service_lines pm_Service_lines an_Service_lines cd_Service_lines ct_Service_lines), sl_Service_lines⟩)
    (c_Service_lines : PySem.W.codeIn K cd_Service_lines "Service.lines" = true)
    (k_Service_lines : PySem.W.keepIn K (.ref f_Service_lines) = true)
    (a_is_plain : PySem.W.nsIn K mainGlobals "is_plain" = some (some (.ref f_is_plain)))
    (l_is_plain : K.lookup f_is_plain = some ⟨oc_is_plain, od_is_plain, .func (PySem.W.fnOf "is_plain" "is_plain" (defArgs s_is_plain) (defBody s_is_plain) (defScope s_is_plain) .none kV_is_plain dc_is_plain pm_is_plain an_is_plain cd_is_plain ct_is_plain), sl_is_plain⟩)
    (c_is_plain : PySem.W.codeIn K cd_is_plain "is_plain" = true)
    (k_is_plain : PySem.W.keepIn K (.ref f_is_plain) = true)
    (a_law_mint : PySem.W.nsIn K mainGlobals "_law_mint" = some (some (.ref f_law_mint)))
    (l_law_mint : K.lookup f_law_mint = some ⟨oc_law_mint, od_law_mint, .func (PySem.W.fnOf "_law_mint" "_law_mint" (defArgs s_law_mint) (defBody s_law_mint) (defScope s_law_mint) .none kV_law_mint dc_law_mint pm_law_mint an_law_mint cd_law_mint ct_law_mint), sl_law_mint⟩)
    (c_law_mint : PySem.W.codeIn K cd_law_mint "_law_mint" = true)
    (k_law_mint : PySem.W.keepIn K (.ref f_law_mint) = true)
    (a_law_coin : PySem.W.nsIn K mainGlobals "_law_coin" = some (some (.ref f_law_coin)))
    (l_law_coin : K.lookup f_law_coin = some ⟨oc_law_coin, od_law_coin, .func (PySem.W.fnOf "_law_coin" "_law_coin" (defArgs s_law_coin) (defBody s_law_coin) (defScope s_law_coin) .none kV_law_coin dc_law_coin pm_law_coin an_law_coin cd_law_coin ct_law_coin), sl_law_coin⟩)
    (c_law_coin : PySem.W.codeIn K cd_law_coin "_law_coin" = true)
    (k_law_coin : PySem.W.keepIn K (.ref f_law_coin) = true)
    (a_law_labels : PySem.W.nsIn K mainGlobals "_law_labels" = some (some (.ref f_law_labels)))
    (l_law_labels : K.lookup f_law_labels = some ⟨oc_law_labels, od_law_labels, .func (PySem.W.fnOf "_law_labels" "_law_labels" (defArgs s_law_labels) (defBody s_law_labels) (defScope s_law_labels) .none kV_law_labels dc_law_labels pm_law_labels an_law_labels cd_law_labels ct_law_labels), sl_law_labels⟩)
    (c_law_labels : PySem.W.codeIn K cd_law_labels "_law_labels" = true)
    (k_law_labels : PySem.W.keepIn K (.ref f_law_labels) = true)
    (a_law_room_steps : PySem.W.nsIn K mainGlobals "_law_room_steps" = some (some (.ref f_law_room_steps)))
    (l_law_room_steps : K.lookup f_law_room_steps = some ⟨oc_law_room_steps, od_law_room_steps, .func (PySem.W.fnOf "_law_room_steps" "_law_room_steps" (defArgs s_law_room_steps) (defBody s_law_room_steps) (defScope s_law_room_steps) .none kV_law_room_steps dc_law_room_steps pm_law_room_steps an_law_room_steps cd_law_room_steps ct_law_room_steps), sl_law_room_steps⟩)
    (c_law_room_steps : PySem.W.codeIn K cd_law_room_steps "_law_room_steps" = true)
    (k_law_room_steps : PySem.W.keepIn K (.ref f_law_room_steps) = true)
    (a_law_plan_of : PySem.W.nsIn K mainGlobals "_law_plan_of" = some (some (.ref f_law_plan_of)))
    (l_law_plan_of : K.lookup f_law_plan_of = some ⟨oc_law_plan_of, od_law_plan_of, .func (PySem.W.fnOf "_law_plan_of" "_law_plan_of" (defArgs s_law_plan_of) (defBody s_law_plan_of) (defScope s_law_plan_of) .none kV_law_plan_of dc_law_plan_of pm_law_plan_of an_law_plan_of cd_law_plan_of ct_law_plan_of), sl_law_plan_of⟩)
    (c_law_plan_of : PySem.W.codeIn K cd_law_plan_of "_law_plan_of" = true)
    (k_law_plan_of : PySem.W.keepIn K (.ref f_law_plan_of) = true)
    (a_law_made_service : PySem.W.nsIn K mainGlobals "_law_made_service" = some (some (.ref f_law_made_service)))
    (l_law_made_service : K.lookup f_law_made_service = some ⟨oc_law_made_service, od_law_made_service, .func (PySem.W.fnOf "_law_made_service" "_law_made_service" (defArgs s_law_made_service) (defBody s_law_made_service) (defScope s_law_made_service) .none kV_law_made_service dc_law_made_service pm_law_made_service an_law_made_service cd_law_made_service ct_law_made_service), sl_law_made_service⟩)
    (c_law_made_service : PySem.W.codeIn K cd_law_made_service "_law_made_service" = true)
    (k_law_made_service : PySem.W.keepIn K (.ref f_law_made_service) = true)
    (a_law_goal : PySem.W.nsIn K mainGlobals "_law_goal" = some (some (.ref f_law_goal)))
    (l_law_goal : K.lookup f_law_goal = some ⟨oc_law_goal, od_law_goal, .func (PySem.W.fnOf "_law_goal" "_law_goal" (defArgs s_law_goal) (defBody s_law_goal) (defScope s_law_goal) .none kV_law_goal dc_law_goal pm_law_goal an_law_goal cd_law_goal ct_law_goal), sl_law_goal⟩)
    (c_law_goal : PySem.W.codeIn K cd_law_goal "_law_goal" = true)
    (k_law_goal : PySem.W.keepIn K (.ref f_law_goal) = true)
    (a_law_keys : PySem.W.nsIn K mainGlobals "_law_keys" = some (some (.ref f_law_keys)))
    (l_law_keys : K.lookup f_law_keys = some ⟨oc_law_keys, od_law_keys, .func (PySem.W.fnOf "_law_keys" "_law_keys" (defArgs s_law_keys) (defBody s_law_keys) (defScope s_law_keys) .none kV_law_keys dc_law_keys pm_law_keys an_law_keys cd_law_keys ct_law_keys), sl_law_keys⟩)
    (c_law_keys : PySem.W.codeIn K cd_law_keys "_law_keys" = true)
    (k_law_keys : PySem.W.keepIn K (.ref f_law_keys) = true)
    (a_law_parted : PySem.W.nsIn K mainGlobals "_law_parted" = some (some (.ref f_law_parted)))
    (l_law_parted : K.lookup f_law_parted = some ⟨oc_law_parted, od_law_parted, .func (PySem.W.fnOf "_law_parted" "_law_parted" (defArgs s_law_parted) (defBody s_law_parted) (defScope s_law_parted) .none kV_law_parted dc_law_parted pm_law_parted an_law_parted cd_law_parted ct_law_parted), sl_law_parted⟩)
    (c_law_parted : PySem.W.codeIn K cd_law_parted "_law_parted" = true)
    (k_law_parted : PySem.W.keepIn K (.ref f_law_parted) = true)
    (a_law_least_plan : PySem.W.nsIn K mainGlobals "_law_least_plan" = some (some (.ref f_law_least_plan)))
    (l_law_least_plan : K.lookup f_law_least_plan = some ⟨oc_law_least_plan, od_law_least_plan, .func (PySem.W.fnOf "_law_least_plan" "_law_least_plan" (defArgs s_law_least_plan) (defBody s_law_least_plan) (defScope s_law_least_plan) .none kV_law_least_plan dc_law_least_plan pm_law_least_plan an_law_least_plan cd_law_least_plan ct_law_least_plan), sl_law_least_plan⟩)
    (c_law_least_plan : PySem.W.codeIn K cd_law_least_plan "_law_least_plan" = true)
    (k_law_least_plan : PySem.W.keepIn K (.ref f_law_least_plan) = true)
    (a_law_own_plain : PySem.W.nsIn K mainGlobals "_law_own_plain" = some (some (.ref f_law_own_plain)))
    (l_law_own_plain : K.lookup f_law_own_plain = some ⟨oc_law_own_plain, od_law_own_plain, .func (PySem.W.fnOf "_law_own_plain" "_law_own_plain" (defArgs s_law_own_plain) (defBody s_law_own_plain) (defScope s_law_own_plain) .none kV_law_own_plain dc_law_own_plain pm_law_own_plain an_law_own_plain cd_law_own_plain ct_law_own_plain), sl_law_own_plain⟩)
    (c_law_own_plain : PySem.W.codeIn K cd_law_own_plain "_law_own_plain" = true)
    (k_law_own_plain : PySem.W.keepIn K (.ref f_law_own_plain) = true)
    (a_law_fits : PySem.W.nsIn K mainGlobals "_law_fits" = some (some (.ref f_law_fits)))
    (l_law_fits : K.lookup f_law_fits = some ⟨oc_law_fits, od_law_fits, .func (PySem.W.fnOf "_law_fits" "_law_fits" (defArgs s_law_fits) (defBody s_law_fits) (defScope s_law_fits) .none kV_law_fits dc_law_fits pm_law_fits an_law_fits cd_law_fits ct_law_fits), sl_law_fits⟩)
    (c_law_fits : PySem.W.codeIn K cd_law_fits "_law_fits" = true)
    (k_law_fits : PySem.W.keepIn K (.ref f_law_fits) = true)
    (a_law : PySem.W.nsIn K mainGlobals "law" = some (some (.ref f_law)))
    (l_law : K.lookup f_law = some ⟨oc_law, od_law, .func (PySem.W.fnOf "law" "law" (defArgs s_law) (defBody s_law) (defScope s_law) .none kV_law dc_law pm_law an_law cd_law ct_law), sl_law⟩)
    (c_law : PySem.W.codeIn K cd_law "law" = true)
    (k_law : PySem.W.keepIn K (.ref f_law) = true)
    (a_SIGNS : PySem.W.nsIn K mainGlobals "SIGNS" = some (some (.ref t_SIGNS)))
    (l_SIGNS : K.lookup t_SIGNS = some ⟨.type "tuple", od_SIGNS, .seq #[.str "!" k_SIGNS0, .str "?" k_SIGNS1] n_SIGNS, sl_SIGNS⟩)
    (a_LONGEST_NAME : PySem.W.nsIn K mainGlobals "LONGEST_NAME" = some (some (.int 8 k_LONGEST_NAME)))
    (z_len : PySem.W.nsIn K mainGlobals "len" = some none)
    (z_int : PySem.W.nsIn K mainGlobals "int" = some none)
    (z_bool : PySem.W.nsIn K mainGlobals "bool" = some none)
    (z_abs : PySem.W.nsIn K mainGlobals "abs" = some none)
    (z_max : PySem.W.nsIn K mainGlobals "max" = some none)
    (z_min : PySem.W.nsIn K mainGlobals "min" = some none)
    (z_all : PySem.W.nsIn K mainGlobals "all" = some none)
    (z_range : PySem.W.nsIn K mainGlobals "range" = some none)
    (z_isinstance : PySem.W.nsIn K mainGlobals "isinstance" = some none)
    (z_enumerate : PySem.W.nsIn K mainGlobals "enumerate" = some none)
    (z_sorted : PySem.W.nsIn K mainGlobals "sorted" = some none)
    (z_list : PySem.W.nsIn K mainGlobals "list" = some none)
    (z_tuple : PySem.W.nsIn K mainGlobals "tuple" = some none)
    (z_repr : PySem.W.nsIn K mainGlobals "repr" = some none)
    (z_set : PySem.W.nsIn K mainGlobals "set" = some none)
    : ∃ fd : FuncData, (∀ (s : Shared) (v : Value), BindsTo s fd ⟨[v], []⟩ [("script", v)]) ∧ ∀ base : Heap, K.In base → base.Ns mainGlobals mg → FnG l.prog w K mg base 9 fa fd ["script"] (spLaw K) := by
  have e0 := hfa.symm.trans (PySem.W.mg_of X G a_law)
  cases e0
  have TX : TXF mg := ⟨PySem.W.mg_none_of X G z_len, PySem.W.mg_none_of X G z_int, PySem.W.mg_none_of X G z_bool, PySem.W.mg_none_of X G z_abs, PySem.W.mg_none_of X G z_max, PySem.W.mg_none_of X G z_min, PySem.W.mg_none_of X G z_all, PySem.W.mg_none_of X G z_range, PySem.W.mg_none_of X G z_isinstance, PySem.W.mg_none_of X G z_enumerate, PySem.W.mg_none_of X G z_sorted, PySem.W.mg_none_of X G z_list, PySem.W.mg_none_of X G z_tuple, PySem.W.mg_none_of X G z_repr⟩
  have CL_Service : Cls K C_Service := ⟨pg_Service, hd_Service, po_Service, sa_Service⟩
  have MG_Service := PySem.W.mg_of X G a_Service
  have F_is_index := fun_mk (st := s_is_index) l_is_index c_is_index k_is_index
  have b_is_index := F_is_index.binds (ps := ["value", "count"]) fun _ _ _ _ _ _ us hl => match us, hl with | [_, _], _ => rfl
  have g_is_index := PySem.W.mg_of X G a_is_index
  have F_is_name := fun_mk (st := s_is_name) l_is_name c_is_name k_is_name
  have b_is_name := F_is_name.binds (ps := ["text"]) fun _ _ _ _ _ _ us hl => match us, hl with | [_], _ => rfl
  have g_is_name := PySem.W.mg_of X G a_is_name
  have F_check_step := fun_mk (st := s_check_step) l_check_step c_check_step k_check_step
  have b_check_step := F_check_step.binds (ps := ["step", "count"]) fun _ _ _ _ _ _ us hl => match us, hl with | [_, _], _ => rfl
  have g_check_step := PySem.W.mg_of X G a_check_step
  have F_next_rooms := fun_mk (st := s_next_rooms) l_next_rooms c_next_rooms k_next_rooms
  have b_next_rooms := F_next_rooms.binds (ps := ["room"]) fun _ _ _ _ _ _ us hl => match us, hl with | [_], _ => rfl
  have g_next_rooms := PySem.W.mg_of X G a_next_rooms
  have F_check_rooms := fun_mk (st := s_check_rooms) l_check_rooms c_check_rooms k_check_rooms
  have b_check_rooms := F_check_rooms.binds (ps := ["rooms"]) fun _ _ _ _ _ _ us hl => match us, hl with | [_], _ => rfl
  have g_check_rooms := PySem.W.mg_of X G a_check_rooms
  have F_split_groups := fun_mk (st := s_split_groups) l_split_groups c_split_groups k_split_groups
  have b_split_groups := F_split_groups.binds (ps := ["rooms", "groups"]) fun _ _ _ _ _ _ us hl => match us, hl with | [_, _], _ => rfl
  have g_split_groups := PySem.W.mg_of X G a_split_groups
  have F_alike_groups := fun_mk (st := s_alike_groups) l_alike_groups c_alike_groups k_alike_groups
  have b_alike_groups := F_alike_groups.binds (ps := ["rooms"]) fun _ _ _ _ _ _ us hl => match us, hl with | [_], _ => rfl
  have g_alike_groups := PySem.W.mg_of X G a_alike_groups
  have F_numbered_rooms := fun_mk (st := s_numbered_rooms) l_numbered_rooms c_numbered_rooms k_numbered_rooms
  have b_numbered_rooms := F_numbered_rooms.binds (ps := ["rooms", "groups"]) fun _ _ _ _ _ _ us hl => match us, hl with | [_, _], _ => rfl
  have g_numbered_rooms := PySem.W.mg_of X G a_numbered_rooms
  have F_least_rooms := fun_mk (st := s_least_rooms) l_least_rooms c_least_rooms k_least_rooms
  have b_least_rooms := F_least_rooms.binds (ps := ["rooms"]) fun _ _ _ _ _ _ us hl => match us, hl with | [_], _ => rfl
  have g_least_rooms := PySem.W.mg_of X G a_least_rooms
  have F_Service___init__ := fun_mk (st := s_Service___init__) l_Service___init__ c_Service___init__ k_Service___init__
  have b_Service___init__ := F_Service___init__.binds (ps := ["self", "rooms"]) fun _ _ _ _ _ _ us hl => match us, hl with | [_, _], _ => rfl
  have M_Service___init__ : Meth K C_Service "__init__" f_Service___init__ := ⟨a_Service___init__, i_Service___init__, k_Service___init__⟩
  have F_Service_rooms := fun_mk (st := s_Service_rooms) l_Service_rooms c_Service_rooms k_Service_rooms
  have b_Service_rooms := F_Service_rooms.binds (ps := ["self"]) fun _ _ _ _ _ _ us hl => match us, hl with | [_], _ => rfl
  have PO_Service_rooms : PropOf K C_Service "rooms" pr_Service_rooms f_Service_rooms := ⟨a_Service_rooms, pg_Service_rooms, pt_Service_rooms, ⟨_, pc_Service_rooms⟩⟩
  have F_Service_lines := fun_mk (st := s_Service_lines) l_Service_lines c_Service_lines k_Service_lines
  have b_Service_lines := F_Service_lines.binds (ps := ["self"]) fun _ _ _ _ _ _ us hl => match us, hl with | [_], _ => rfl
  have PO_Service_lines : PropOf K C_Service "lines" pr_Service_lines f_Service_lines := ⟨a_Service_lines, pg_Service_lines, pt_Service_lines, ⟨_, pc_Service_lines⟩⟩
  have F_is_plain := fun_mk (st := s_is_plain) l_is_plain c_is_plain k_is_plain
  have b_is_plain := F_is_plain.binds (ps := ["service"]) fun _ _ _ _ _ _ us hl => match us, hl with | [_], _ => rfl
  have g_is_plain := PySem.W.mg_of X G a_is_plain
  have F_law_mint := fun_mk (st := s_law_mint) l_law_mint c_law_mint k_law_mint
  have b_law_mint := F_law_mint.binds (ps := ["script", "place"]) fun _ _ _ _ _ _ us hl => match us, hl with | [_, _], _ => rfl
  have g_law_mint := PySem.W.mg_of X G a_law_mint
  have F_law_coin := fun_mk (st := s_law_coin) l_law_coin c_law_coin k_law_coin
  have b_law_coin := F_law_coin.binds (ps := ["mint", "many"]) fun _ _ _ _ _ _ us hl => match us, hl with | [_, _], _ => rfl
  have g_law_coin := PySem.W.mg_of X G a_law_coin
  have F_law_labels := fun_mk (st := s_law_labels) l_law_labels c_law_labels k_law_labels
  have b_law_labels := F_law_labels.binds (ps := ["mint", "many"]) fun _ _ _ _ _ _ us hl => match us, hl with | [_, _], _ => rfl
  have g_law_labels := PySem.W.mg_of X G a_law_labels
  have F_law_room_steps := fun_mk (st := s_law_room_steps) l_law_room_steps c_law_room_steps k_law_room_steps
  have b_law_room_steps := F_law_room_steps.binds (ps := ["mint", "count", "lines_here", "words_here", "one_sign"]) fun _ _ _ _ _ _ us hl => match us, hl with | [_, _, _, _, _], _ => rfl
  have g_law_room_steps := PySem.W.mg_of X G a_law_room_steps
  have F_law_plan_of := fun_mk (st := s_law_plan_of) l_law_plan_of c_law_plan_of k_law_plan_of
  have b_law_plan_of := F_law_plan_of.binds (ps := ["mint", "most", "lines_here", "words_here", "one_sign"]) fun _ _ _ _ _ _ us hl => match us, hl with | [_, _, _, _, _], _ => rfl
  have g_law_plan_of := PySem.W.mg_of X G a_law_plan_of
  have F_law_made_service := fun_mk (st := s_law_made_service) l_law_made_service c_law_made_service k_law_made_service
  have b_law_made_service := F_law_made_service.binds (ps := ["plan"]) fun _ _ _ _ _ _ us hl => match us, hl with | [_], _ => rfl
  have g_law_made_service := PySem.W.mg_of X G a_law_made_service
  have F_law_goal := fun_mk (st := s_law_goal) l_law_goal c_law_goal k_law_goal
  have b_law_goal := F_law_goal.binds (ps := ["steps_here", "key"]) fun _ _ _ _ _ _ us hl => match us, hl with | [_, _], _ => rfl
  have g_law_goal := PySem.W.mg_of X G a_law_goal
  have F_law_keys := fun_mk (st := s_law_keys) l_law_keys c_law_keys k_law_keys
  have b_law_keys := F_law_keys.binds (ps := ["steps_here"]) fun _ _ _ _ _ _ us hl => match us, hl with | [_], _ => rfl
  have g_law_keys := PySem.W.mg_of X G a_law_keys
  have F_law_parted := fun_mk (st := s_law_parted) l_law_parted c_law_parted k_law_parted
  have b_law_parted := F_law_parted.binds (ps := ["plan"]) fun _ _ _ _ _ _ us hl => match us, hl with | [_], _ => rfl
  have g_law_parted := PySem.W.mg_of X G a_law_parted
  have F_law_least_plan := fun_mk (st := s_law_least_plan) l_law_least_plan c_law_least_plan k_law_least_plan
  have b_law_least_plan := F_law_least_plan.binds (ps := ["plan"]) fun _ _ _ _ _ _ us hl => match us, hl with | [_], _ => rfl
  have g_law_least_plan := PySem.W.mg_of X G a_law_least_plan
  have F_law_own_plain := fun_mk (st := s_law_own_plain) l_law_own_plain c_law_own_plain k_law_own_plain
  have b_law_own_plain := F_law_own_plain.binds (ps := ["plan"]) fun _ _ _ _ _ _ us hl => match us, hl with | [_], _ => rfl
  have g_law_own_plain := PySem.W.mg_of X G a_law_own_plain
  have F_law_fits := fun_mk (st := s_law_fits) l_law_fits c_law_fits k_law_fits
  have b_law_fits := F_law_fits.binds (ps := ["mint"]) fun _ _ _ _ _ _ us hl => match us, hl with | [_], _ => rfl
  have g_law_fits := PySem.W.mg_of X G a_law_fits
  have F_law := fun_mk (st := s_law) l_law c_law k_law
  have b_law := F_law.binds (ps := ["script"]) fun _ _ _ _ _ _ us hl => match us, hl with | [_], _ => rfl
  have g_law := PySem.W.mg_of X G a_law
  have MK_Service : Mk K C_Service f_Service___init__ := ⟨mk_Service, a_Service___init__, i_Service___init__, kc_Service⟩
  have N_set : mg "set" = none := PySem.W.mg_none_of X G z_set
  have S_SIGNS : ∀ F P, DV ⟨P, w, K⟩ F (.ref t_SIGNS) (.tup [.str "!", .str "?"]) := fun F P => by
    simp only [DV]
    exact ⟨_, [.str "!", .str "?"], rfl, .inr ⟨_, _, _, l_SIGNS, rfl, rfl, (show 2 ≤ sizeLine by decide +kernel), .cons ⟨_, rfl⟩ (.cons ⟨_, rfl⟩ (.nil))⟩, .cons (by simp only [DV]) (.cons (by simp only [DV]) (.nil))⟩
  have G_SIGNS := PySem.W.mg_of X G a_SIGNS
  have G_LONGEST_NAME := PySem.W.mg_of X G a_LONGEST_NAME
  refine ⟨PySem.W.fnOf "law" "law" (defArgs s_law) (defBody s_law) (defScope s_law) .none kV_law dc_law pm_law an_law cd_law ct_law, fun s v => .of_eq rfl, fun base _ _ => ?_⟩
  have C_is_index : Cal l.prog w K mg base CX0 "is_index" 1 ["value", "count"] (spP ⟨l.prog, w, K⟩ SIndex) := ⟨f_is_index, _, ok_index F_is_index TX, g_is_index, k_is_index, b_is_index⟩
  have C_is_name : Cal l.prog w K mg base CX0 "is_name" 1 ["text"] (spP ⟨l.prog, w, K⟩ SName) := ⟨f_is_name, _, ok_name F_is_name TX (uL := .int 8 k_LONGEST_NAME) ⟨G_LONGEST_NAME, ⟨_, rfl⟩⟩, g_is_name, k_is_name, b_is_name⟩
  have C_check_step : Cal l.prog w K mg base CX0 "check_step" 2 ["step", "count"] (spP ⟨l.prog, w, K⟩ SCheckStep) := ⟨f_check_step, _, ok_check_step F_check_step TX C_is_index C_is_name ⟨G_SIGNS, rfl⟩ fun F => S_SIGNS F l.prog, g_check_step, k_check_step, b_check_step⟩
  have C_next_rooms : Cal l.prog w K mg base CX0 "next_rooms" 1 ["room"] (spP ⟨l.prog, w, K⟩ SNext) := ⟨f_next_rooms, _, ok_next_rooms F_next_rooms TX, g_next_rooms, k_next_rooms, b_next_rooms⟩
  have C_check_rooms : Cal l.prog w K mg base CX0 "check_rooms" 3 ["rooms"] (spP ⟨l.prog, w, K⟩ SCheckRooms) := ⟨f_check_rooms, _, ok_check_rooms F_check_rooms TX C_check_step C_next_rooms, g_check_rooms, k_check_rooms, b_check_rooms⟩
  have C_split_groups : Cal l.prog w K mg base CX0 "split_groups" 1 ["rooms", "groups"] (spP ⟨l.prog, w, K⟩ SSplit) := ⟨f_split_groups, _, ok_split F_split_groups TX, g_split_groups, k_split_groups, b_split_groups⟩
  have C_alike_groups : Cal l.prog w K mg base CX0 "alike_groups" 2 ["rooms"] (spP ⟨l.prog, w, K⟩ SAlike) := ⟨f_alike_groups, _, ok_alike F_alike_groups TX C_split_groups, g_alike_groups, k_alike_groups, b_alike_groups⟩
  have C_numbered_rooms : Cal l.prog w K mg base CX0 "numbered_rooms" 1 ["rooms", "groups"] (spP ⟨l.prog, w, K⟩ SNumbered) := ⟨f_numbered_rooms, _, ok_numbered F_numbered_rooms TX, g_numbered_rooms, k_numbered_rooms, b_numbered_rooms⟩
  have C_least_rooms : Cal l.prog w K mg base CX0 "least_rooms" 3 ["rooms"] (spP ⟨l.prog, w, K⟩ SLeast) := ⟨f_least_rooms, _, ok_least F_least_rooms TX C_alike_groups C_numbered_rooms, g_least_rooms, k_least_rooms, b_least_rooms⟩
  let C_Service___init__ : CalM l.prog w K mg base 4 f_Service___init__ ["self", "rooms"] (spM ⟨l.prog, w, K⟩ (SInit C_Service)) := ⟨_, ok_init F_Service___init__ TX CL_Service na_Service_rooms C_check_rooms C_least_rooms, b_Service___init__⟩
  let C_Service_rooms : CalM l.prog w K mg base 1 f_Service_rooms ["self"] (spP ⟨l.prog, w, K⟩ (SRooms C_Service)) := ⟨_, ok_rooms F_Service_rooms TX CL_Service na_Service_rooms, b_Service_rooms⟩
  let C_Service_lines : CalM l.prog w K mg base 1 f_Service_lines ["self"] (spP ⟨l.prog, w, K⟩ (SLines C_Service)) := ⟨_, ok_lines F_Service_lines TX CL_Service na_Service_rooms, b_Service_lines⟩
  let C_is_plain : Cal l.prog w K mg base CX0 "is_plain" 3 ["service"] (spP ⟨l.prog, w, K⟩ (SIsPlain C_Service)) := ⟨f_is_plain, _, ok_is_plain F_is_plain TX CL_Service C_Service_rooms PO_Service_rooms C_Service_lines PO_Service_lines, g_is_plain, k_is_plain, b_is_plain⟩
  have KB_is_plain : KBinds K C_is_plain.fd ["service"] ["service"] gOne gOne := kb_one F_is_plain fun _ _ _ _ _ _ _ => rfl
  have C_law_mint : Cal l.prog w K mg base CX0 "_law_mint" 1 ["script", "place"] (spP ⟨l.prog, w, K⟩ SMint) := ⟨f_law_mint, _, ok_mint F_law_mint TX, g_law_mint, k_law_mint, b_law_mint⟩
  have C_law_coin : Cal l.prog w K mg base CX0 "_law_coin" 1 ["mint", "many"] (spM ⟨l.prog, w, K⟩ SCoin) := ⟨f_law_coin, _, ok_coin F_law_coin TX, g_law_coin, k_law_coin, b_law_coin⟩
  have C_law_labels : Cal l.prog w K mg base CX0 "_law_labels" 2 ["mint", "many"] (spM ⟨l.prog, w, K⟩ SLabels) := ⟨f_law_labels, _, ok_labels F_law_labels TX C_law_coin, g_law_labels, k_law_labels, b_law_labels⟩
  have C_law_room_steps : Cal l.prog w K mg base CX0 "_law_room_steps" 2 ["mint", "count", "lines_here", "words_here", "one_sign"] (spM ⟨l.prog, w, K⟩ SRoomSteps) := ⟨f_law_room_steps, _, ok_room_steps F_law_room_steps TX C_law_coin, g_law_room_steps, k_law_room_steps, b_law_room_steps⟩
  have C_law_plan_of : Cal l.prog w K mg base CX0 "_law_plan_of" 3 ["mint", "most", "lines_here", "words_here", "one_sign"] (spM ⟨l.prog, w, K⟩ SPlanOf) := ⟨f_law_plan_of, _, ok_plan_of F_law_plan_of TX C_law_coin C_law_room_steps, g_law_plan_of, k_law_plan_of, b_law_plan_of⟩
  have C_law_made_service : Cal l.prog w K mg base CX0 "_law_made_service" 6 ["plan"] (spP ⟨l.prog, w, K⟩ (SMade C_Service)) := ⟨f_law_made_service, _, ok_made F_law_made_service TX MK_Service MG_Service C_Service___init__, g_law_made_service, k_law_made_service, b_law_made_service⟩
  have C_law_goal : Cal l.prog w K mg base CX0 "_law_goal" 1 ["steps_here", "key"] (spP ⟨l.prog, w, K⟩ SGoal) := ⟨f_law_goal, _, ok_goal F_law_goal TX, g_law_goal, k_law_goal, b_law_goal⟩
  have C_law_keys : Cal l.prog w K mg base CX0 "_law_keys" 1 ["steps_here"] (spP ⟨l.prog, w, K⟩ SKeys) := ⟨f_law_keys, _, ok_keys F_law_keys TX, g_law_keys, k_law_keys, b_law_keys⟩
  have C_law_parted : Cal l.prog w K mg base CX0 "_law_parted" 2 ["plan"] (spP ⟨l.prog, w, K⟩ SParted) := ⟨f_law_parted, _, ok_parted F_law_parted TX C_law_keys C_law_goal, g_law_parted, k_law_parted, b_law_parted⟩
  have C_law_least_plan : Cal l.prog w K mg base CX0 "_law_least_plan" 3 ["plan"] (spP ⟨l.prog, w, K⟩ SLeastPlan) := ⟨f_law_least_plan, _, ok_least_plan F_law_least_plan TX C_law_keys C_law_goal C_law_parted, g_law_least_plan, k_law_least_plan, b_law_least_plan⟩
  have C_law_own_plain : Cal l.prog w K mg base CX0 "_law_own_plain" 1 ["plan"] (spP ⟨l.prog, w, K⟩ SOwnPlain) := ⟨f_law_own_plain, _, ok_own_plain F_law_own_plain TX N_set, g_law_own_plain, k_law_own_plain, b_law_own_plain⟩
  have C_law_fits : CalG l.prog w K mg base "_law_fits" 8 ["mint"] (spM ⟨l.prog, w, K⟩ SFits) := ⟨f_law_fits, _, ok_fits F_law_fits TX C_law_coin C_law_labels C_law_plan_of C_law_made_service C_law_least_plan C_law_own_plain C_is_plain KB_is_plain, g_law_fits, k_law_fits, b_law_fits⟩
  exact ok_law F_law TX C_law_mint C_law_fits
theorem walk {l : PySem.W.OpenLaw} {q : Program} {loose : List Str} {XP : (Str → Option Value) → Heap → Prop} {YP : World → Heap → Prop} {d : DefRec} {K : Params → PySem.W.Frag} (hn : l.most = some 63) (hdf : d.params.defaults = [])
    (hY : ∀ (w : World) (h : Heap), YP w h → (K w.params).In h)
    (F : ∀ (w : World) (mg : Str → Option Value) (fa : Addr) (h : Heap), (K w.params).In h → h.Ns mainGlobals mg → mg d.name = some (.ref fa) →
      ∃ fd : FuncData, (∀ (s : Shared) (v : Value), BindsTo s fd ⟨[v], []⟩ [("script", v)]) ∧ ∀ base : Heap, (K w.params).In base → base.Ns mainGlobals mg → FnG l.prog w (K w.params) mg base 9 fa fd ["script"] (spLaw (K w.params))) :
    PySem.W.WalkO q loose XP YP l.row.toRowW d [] (fun f vs => PySem.call f vs) :=
  walk_ofG (n := 63) (k := 9) (sp := spLaw) hn (by decide) hdf ⟨rfl, by decide, by decide⟩ hY F fun _ _ a ns hl _ hS => ⟨a, ns, rfl, hS, hl, fun _ => rfl⟩
end K
set_option maxRecDepth 100000 in
set_option maxHeartbeats 0 in
open PySem PySem.W PyProof.Rows in
theorem PySem.Challenge.cw_emptyfirst_k13_plain_services_holds : PySem.Challenge.rw_emptyfirst_k13_plain_services.Holds := by
  w_on; o_law; k_head; (case hw => w_witness2)
  k_fill
  refine K.walk (l := PySem.Challenge.rw_emptyfirst_k13_plain_services) rfl rfl (fun w h Y => PySem.W.kIn_of Y) ?F
  case F =>
    intro w mg fa h KX G hmg
    refine' K.all_mk KX G hmg ?a_Service ?pg_Service ?hd_Service ?po_Service ?sa_Service ?mk_Service ?kc_Service ?na_Service_rooms ?a_is_index ?l_is_index ?c_is_index ?k_is_index ?a_is_name ?l_is_name ?c_is_name ?k_is_name ?a_check_step ?l_check_step ?c_check_step ?k_check_step ?a_next_rooms ?l_next_rooms ?c_next_rooms ?k_next_rooms ?a_check_rooms ?l_check_rooms ?c_check_rooms ?k_check_rooms ?a_split_groups ?l_split_groups ?c_split_groups ?k_split_groups ?a_alike_groups ?l_alike_groups ?c_alike_groups ?k_alike_groups ?a_numbered_rooms ?l_numbered_rooms ?c_numbered_rooms ?k_numbered_rooms ?a_least_rooms ?l_least_rooms ?c_least_rooms ?k_least_rooms ?a_Service___init__ ?i_Service___init__ ?l_Service___init__ ?c_Service___init__ ?k_Service___init__ ?a_Service_rooms ?pg_Service_rooms ?pt_Service_rooms ?pc_Service_rooms ?l_Service_rooms ?c_Service_rooms ?k_Service_rooms ?a_Service_lines ?pg_Service_lines ?pt_Service_lines ?pc_Service_lines ?l_Service_lines ?c_Service_lines ?k_Service_lines ?a_is_plain ?l_is_plain ?c_is_plain ?k_is_plain ?a_law_mint ?l_law_mint ?c_law_mint ?k_law_mint ?a_law_coin ?l_law_coin ?c_law_coin ?k_law_coin ?a_law_labels ?l_law_labels ?c_law_labels ?k_law_labels ?a_law_room_steps ?l_law_room_steps ?c_law_room_steps ?k_law_room_steps ?a_law_plan_of ?l_law_plan_of ?c_law_plan_of ?k_law_plan_of ?a_law_made_service ?l_law_made_service ?c_law_made_service ?k_law_made_service ?a_law_goal ?l_law_goal ?c_law_goal ?k_law_goal ?a_law_keys ?l_law_keys ?c_law_keys ?k_law_keys ?a_law_parted ?l_law_parted ?c_law_parted ?k_law_parted ?a_law_least_plan ?l_law_least_plan ?c_law_least_plan ?k_law_least_plan ?a_law_own_plain ?l_law_own_plain ?c_law_own_plain ?k_law_own_plain ?a_law_fits ?l_law_fits ?c_law_fits ?k_law_fits ?a_law ?l_law ?c_law ?k_law ?a_SIGNS ?l_SIGNS ?a_LONGEST_NAME ?z_len ?z_int ?z_bool ?z_abs ?z_max ?z_min ?z_all ?z_range ?z_isinstance ?z_enumerate ?z_sorted ?z_list ?z_tuple ?z_repr ?z_set
    (case a_Service => k_is)
    (case pg_Service => k_is)
    (case hd_Service => k_is)
    (case po_Service => k_is)
    (case sa_Service => k_is)
    (case mk_Service => k_is)
    (case kc_Service => k_is)
    (case na_Service_rooms => k_is)
    (case a_is_index => k_is)
    (case l_is_index => k_is)
    (case c_is_index => k_is)
    (case k_is_index => k_is)
    (case a_is_name => k_is)
    (case l_is_name => k_is)
    (case c_is_name => k_is)
    (case k_is_name => k_is)
    (case a_check_step => k_is)
    (case l_check_step => k_is)
    (case c_check_step => k_is)
    (case k_check_step => k_is)
    (case a_next_rooms => k_is)
    (case l_next_rooms => k_is)
    (case c_next_rooms => k_is)
    (case k_next_rooms => k_is)
    (case a_check_rooms => k_is)
    (case l_check_rooms => k_is)
    (case c_check_rooms => k_is)
    (case k_check_rooms => k_is)
    (case a_split_groups => k_is)
    (case l_split_groups => k_is)
    (case c_split_groups => k_is)
    (case k_split_groups => k_is)
    (case a_alike_groups => k_is)
    (case l_alike_groups => k_is)
    (case c_alike_groups => k_is)
    (case k_alike_groups => k_is)
    (case a_numbered_rooms => k_is)
    (case l_numbered_rooms => k_is)
    (case c_numbered_rooms => k_is)
    (case k_numbered_rooms => k_is)
    (case a_least_rooms => k_is)
    (case l_least_rooms => k_is)
    (case c_least_rooms => k_is)
    (case k_least_rooms => k_is)
    (case a_Service___init__ => k_is)
    (case i_Service___init__ => k_is)
    (case l_Service___init__ => k_is)
    (case c_Service___init__ => k_is)
    (case k_Service___init__ => k_is)
    (case a_Service_rooms => k_is)
    (case pg_Service_rooms => k_is)
    (case pt_Service_rooms => k_is)
    (case pc_Service_rooms => k_is)
    (case l_Service_rooms => k_is)
    (case c_Service_rooms => k_is)
    (case k_Service_rooms => k_is)
    (case a_Service_lines => k_is)
    (case pg_Service_lines => k_is)
    (case pt_Service_lines => k_is)
    (case pc_Service_lines => k_is)
    (case l_Service_lines => k_is)
    (case c_Service_lines => k_is)
    (case k_Service_lines => k_is)
    (case a_is_plain => k_is)
    (case l_is_plain => k_is)
    (case c_is_plain => k_is)
    (case k_is_plain => k_is)
    (case a_law_mint => k_is)
    (case l_law_mint => k_is)
    (case c_law_mint => k_is)
    (case k_law_mint => k_is)
    (case a_law_coin => k_is)
    (case l_law_coin => k_is)
    (case c_law_coin => k_is)
    (case k_law_coin => k_is)
    (case a_law_labels => k_is)
    (case l_law_labels => k_is)
    (case c_law_labels => k_is)
    (case k_law_labels => k_is)
    (case a_law_room_steps => k_is)
    (case l_law_room_steps => k_is)
    (case c_law_room_steps => k_is)
    (case k_law_room_steps => k_is)
    (case a_law_plan_of => k_is)
    (case l_law_plan_of => k_is)
    (case c_law_plan_of => k_is)
    (case k_law_plan_of => k_is)
    (case a_law_made_service => k_is)
    (case l_law_made_service => k_is)
    (case c_law_made_service => k_is)
    (case k_law_made_service => k_is)
    (case a_law_goal => k_is)
    (case l_law_goal => k_is)
    (case c_law_goal => k_is)
    (case k_law_goal => k_is)
    (case a_law_keys => k_is)
    (case l_law_keys => k_is)
    (case c_law_keys => k_is)
    (case k_law_keys => k_is)
    (case a_law_parted => k_is)
    (case l_law_parted => k_is)
    (case c_law_parted => k_is)
    (case k_law_parted => k_is)
    (case a_law_least_plan => k_is)
    (case l_law_least_plan => k_is)
    (case c_law_least_plan => k_is)
    (case k_law_least_plan => k_is)
    (case a_law_own_plain => k_is)
    (case l_law_own_plain => k_is)
    (case c_law_own_plain => k_is)
    (case k_law_own_plain => k_is)
    (case a_law_fits => k_is)
    (case l_law_fits => k_is)
    (case c_law_fits => k_is)
    (case k_law_fits => k_is)
    (case a_law => k_is)
    (case l_law => k_is)
    (case c_law => k_is)
    (case k_law => k_is)
    (case a_SIGNS => k_is)
    (case l_SIGNS => k_is)
    (case a_LONGEST_NAME => k_is)
    (case z_len => k_is)
    (case z_int => k_is)
    (case z_bool => k_is)
    (case z_abs => k_is)
    (case z_max => k_is)
    (case z_min => k_is)
    (case z_all => k_is)
    (case z_range => k_is)
    (case z_isinstance => k_is)
    (case z_enumerate => k_is)
    (case z_sorted => k_is)
    (case z_list => k_is)
    (case z_tuple => k_is)
    (case z_repr => k_is)
    (case z_set => k_is)

